package phv

import (
	"math"

	"shunter/api"
	"shunter/vec"
)

// Has tells whether a slot is there.
func (p *Phv) Has(slot int) bool {
	return p.noSlot(slot) == api.OK && p.Valid[slot]
}

// noSlot tells why there is no such slot, whether it is there or not.
func (p *Phv) noSlot(slot int) api.Errno {
	switch {
	case p == nil:
		return api.ErrArg
	case !isPlace(p.Fields, slot):
		return api.ErrNone
	}
	return api.OK
}

// noField tells why a field is not to be had.
func (p *Phv) noField(slot, f int) api.Errno {
	e := p.noSlot(slot)
	switch {
	case e != api.OK:
		return e
	case !isPlace(p.Fields[slot], f):
		return api.ErrNone
	case !p.Valid[slot]:
		return api.ErrValid
	}
	return api.OK
}

// Get is a field.
func (p *Phv) Get(slot, f int) (api.Vec, api.Errno) {
	if e := p.noField(slot, f); e != api.OK {
		return api.Vec{}, e
	}
	return p.Fields[slot][f], api.OK
}

// Put writes a field.
func (p *Phv) Put(slot, f int, v api.Vec) api.Errno {
	if e := p.noField(slot, f); e != api.OK {
		return e
	}
	return write(&p.Fields[slot][f], v)
}

// noMeta tells why metadata are not to be had.
func (p *Phv) noMeta(i int) api.Errno {
	switch {
	case p == nil:
		return api.ErrArg
	case !isPlace(p.Metas, i):
		return api.ErrNone
	}
	return api.OK
}

// Meta is metadata.
func (p *Phv) Meta(i int) (api.Vec, api.Errno) {
	if e := p.noMeta(i); e != api.OK {
		return api.Vec{}, e
	}
	return p.Metas[i], api.OK
}

// PutMeta writes metadata.
func (p *Phv) PutMeta(i int, v api.Vec) api.Errno {
	if e := p.noMeta(i); e != api.OK {
		return e
	}
	switch i {
	case api.MetaIn, api.MetaSize, api.MetaRound:
		return api.ErrKind
	}
	return write(&p.Metas[i], v)
}

// Begin writes the metadata that nobody else may write.
func (p *Phv) Begin(in, size, round int) api.Errno {
	switch {
	case p == nil:
		return api.ErrArg
	case !within(in, math.MaxUint8), !within(size, math.MaxUint16), !within(round, math.MaxUint8):
		return api.ErrRange
	}
	p.Metas[api.MetaIn].Lo = uint64(in)
	p.Metas[api.MetaSize].Lo = uint64(size)
	p.Metas[api.MetaRound].Lo = uint64(round)
	return api.OK
}

// write has a row be another one, which must be as wide as it is.
func write(to *api.Vec, v api.Vec) api.Errno {
	if v.W != to.W || !vec.May(v) {
		return api.ErrWidth
	}
	*to = v
	return api.OK
}

func isPlace[T any](l []T, i int) bool {
	return within(i, len(l)-1)
}

func within(n, most int) bool {
	return n >= 0 && n <= most
}
