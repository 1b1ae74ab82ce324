package graph

import (
	"shunter/api"
	"shunter/image"
	"shunter/shape"
)

// count is bytes and steps. They are counted together, but the most of each may be that of a way of its own.
type count struct {
	bytes, steps int
}

func (c count) and(other count) count {
	return count{c.bytes + other.bytes, c.steps + other.steps}
}

func (c count) most(other count) count {
	return count{max(c.bytes, other.bytes), max(c.steps, other.steps)}
}

// counts is what a state counts.
func counts(m api.Image, x api.State) count {
	c := count{steps: 1}
	for _, ext := range x.Exts {
		c = c.and(count{bytesOf(m, ext), 1})
	}
	return c
}

// bytesOf is how many bytes an extraction takes at most.
func bytesOf(m api.Image, x api.Ext) int {
	slot := x.N
	switch x.Kind {
	case api.ExtSkip:
		return x.N
	case api.ExtNext:
		slot, _, _ = image.Stacked(m, x.N) // all slots of a stack are of one header
	}
	h, _ := image.Slot(m, slot)
	return shape.Most(h)
}

// greatest is the greatest sums over ways of at most as many states as the image's Depth.
func greatest(m api.Image) count {
	each := make([]count, len(m.States))
	for i, x := range m.States {
		each[i] = counts(m, x)
	}
	row := make([]count, len(m.States))
	row[0] = each[0]
	most := each[0]
	for range m.Depth - 1 {
		row = longer(m, each, row)
		for _, c := range row {
			most = most.most(c)
		}
	}
	return most
}

// longer is, for each state, the greatest sums over ways of one state more that end there, of those of the ways so far. Where none ends is a zero count, which a way never has, for each state is a step.
func longer(m api.Image, each, row []count) []count {
	next := make([]count, len(row))
	for i, x := range m.States {
		if row[i] == (count{}) {
			continue
		}
		for _, to := range leads(x) {
			next[to] = next[to].most(row[i].and(each[to]))
		}
	}
	return next
}
