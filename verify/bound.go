package verify

import (
	"shunter/api"
	"shunter/image"
	"shunter/shape"
)

// In one pass a packet goes out at most by each port of a group, and by one more as a copy.
const copies = api.MaxPorts + 1

func bound(p *Proof) int {
	together := len(p.image.Deparse) + len(p.image.Updates)
	pass := p.parser.Steps + len(p.image.Checks) + p.ingress.Steps
	// What goes round again is put together too, but doesn't go through the egress.
	return passes(p.image) * (pass + together + copies*(p.egress.Steps+together))
}

func growth(m api.Image) int {
	most := 0
	for _, slot := range m.Deparse {
		h, _ := image.Slot(m, slot) // without a flaw it is there
		most += shape.Most(h)
	}
	return passes(m) * most
}

// passes is how often a packet is parsed at most.
func passes(m api.Image) int {
	return m.Rounds + 1
}
