package phv

import (
	"shunter/api"
	"shunter/bits"
	"shunter/image"
	"shunter/shape"
)

// Show has a slot be there.
func (p *Phv) Show(slot int) api.Errno {
	if e := p.noSlot(slot); e != api.OK {
		return e
	}
	p.Valid[slot] = true
	return api.OK
}

// Hide has a slot not be there.
func (p *Phv) Hide(slot int) api.Errno {
	if e := p.noSlot(slot); e != api.OK {
		return e
	}
	p.empty(slot)
	return api.OK
}

// empty leaves nothing of what a slot had: if it is there again, that isn't.
func (p *Phv) empty(slot int) {
	p.Valid[slot] = false
	for f := range len(p.Fields[slot]) {
		p.Fields[slot][f] = api.Vec{W: p.Fields[slot][f].W}
	}
	p.Vars[slot] = nil
}

// Push moves a stack's slots up.
func (p *Phv) Push(inst, n int) api.Errno {
	return p.shift(inst, n, func(first, depth, i int) int { return first + depth - 1 - i })
}

// Pop moves a stack's slots down.
func (p *Phv) Pop(inst, n int) api.Errno {
	return p.shift(inst, n, func(first, _, i int) int { return first + i })
}

// shift moves a stack's slots n places on: what is at the place 0 goes. Which slot a place is, at tells, so that a stack is moved to either side in one way.
func (p *Phv) shift(inst, n int, at func(first, depth, i int) int) api.Errno {
	first, depth, e := p.stack(inst)
	switch {
	case e != api.OK:
		return e
	case n < 1 || n > api.MaxStack:
		return api.ErrRange
	}
	for i := range depth - n {
		p.move(at(first, depth, i), at(first, depth, i+n))
	}
	for i := range min(n, depth) {
		p.empty(at(first, depth, depth-1-i))
	}
	return api.OK
}

func (p *Phv) stack(inst int) (first, depth int, e api.Errno) {
	if p == nil {
		return 0, 0, api.ErrArg
	}
	first, depth, ok := image.Stacked(p.form, inst)
	if !ok {
		return 0, 0, api.ErrNone
	}
	return first, depth, api.OK
}

// move has a slot be what another one of its stack was, which is written over, or emptied, behind that: both have the same bytes that vary till then.
func (p *Phv) move(to, from int) {
	p.Valid[to] = p.Valid[from]
	for f := range len(p.Fields[to]) {
		p.Fields[to][f] = p.Fields[from][f]
	}
	p.Vars[to] = p.Vars[from]
}

// Take takes a header off bytes.
func (p *Phv) Take(slot int, b []byte) (int, api.Errno) {
	if e := p.noSlot(slot); e != api.OK {
		return 0, e
	}
	h, _ := image.Slot(p.form, slot)
	// What a taker is given it copies: a packet may be far longer than a header.
	t := bits.Take(b[:min(len(b), shape.Most(h))])
	fields, e := takeFields(t, h.Fields)
	if e != api.OK {
		return 0, e
	}
	n, ok := shape.Vary(h, int(fields[h.By].Lo))
	if !ok {
		return 0, api.ErrForm
	}
	varying, e := t.Bytes(n)
	if e != api.OK {
		return 0, e
	}
	p.Valid[slot], p.Fields[slot], p.Vars[slot] = true, fields, varying
	return t.At() / 8, api.OK
}

func takeFields(t *bits.Taker, l []api.Field) ([]api.Vec, api.Errno) {
	rows := make([]api.Vec, len(l))
	for i := range len(l) {
		v, e := t.Vec(l[i].W)
		if e != api.OK {
			return nil, e
		}
		rows[i] = v
	}
	return rows, api.OK
}

// Another is the next slot of a stack.
func (p *Phv) Another(inst int) (int, api.Errno) {
	first, depth, e := p.stack(inst)
	switch {
	case e != api.OK:
		return 0, e
	case p.Next[inst] >= depth:
		return 0, api.ErrFull
	}
	slot := first + p.Next[inst]
	p.Next[inst]++
	return slot, api.OK
}

// Bytes is a slot's bytes.
func (p *Phv) Bytes(slot int) ([]byte, api.Errno) {
	if e := p.noSlot(slot); e != api.OK {
		return nil, e
	}
	if !p.Valid[slot] {
		return nil, api.ErrValid
	}
	// None of it is refused: fields are rows that make whole bytes, and a header is far shorter than a packet.
	var r bits.Row
	for f := range len(p.Fields[slot]) {
		r.Add(p.Fields[slot][f])
	}
	r.Bytes(p.Vars[slot])
	return r.All(), api.OK
}
