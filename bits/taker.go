package bits

import (
	"shunter/api"
)

// stock is bytes, and how many of their bits are gone from the front.
type stock struct {
	bytes []byte
	gone  int
}

func (s *stock) left() int {
	return whole*len(s.bytes) - s.gone
}

// Taker takes bits off bytes.
type Taker struct {
	stock
}

// Take is a taker of bytes.
func Take(b []byte) *Taker {
	return &Taker{stock{bytes: fresh(b)}}
}

// At is how many bits were taken.
func (t *Taker) At() int {
	if t == nil {
		return 0
	}
	return t.gone
}

// Left is how many bits are left.
func (t *Taker) Left() int {
	if t == nil {
		return 0
	}
	return t.left()
}

// Look is some bits that lie ahead.
func (t *Taker) Look(ahead, w int) (api.Vec, api.Errno) {
	if t == nil {
		return api.Vec{}, api.ErrArg
	}
	if !mayWidth(w) {
		return api.Vec{}, api.ErrWidth
	}
	if ahead < 0 {
		return api.Vec{}, api.ErrRange
	}
	// The greatest int may be ahead: a sum with it would go round.
	if ahead > t.left()-w {
		return api.Vec{}, api.ErrEnd
	}
	return Get(t.bytes, t.gone+ahead, w)
}

// Vec takes some bits.
func (t *Taker) Vec(w int) (api.Vec, api.Errno) {
	v, e := t.Look(0, w)
	if e != api.OK {
		return api.Vec{}, e
	}
	t.gone += w
	return v, api.OK
}

// Bytes takes some bytes.
func (t *Taker) Bytes(n int) ([]byte, api.Errno) {
	if t == nil {
		return nil, api.ErrArg
	}
	if t.gone%whole != 0 {
		return nil, api.ErrState
	}
	if n < 0 {
		return nil, api.ErrRange
	}
	if n > t.left()/whole {
		return nil, api.ErrEnd
	}
	from := t.gone / whole
	t.gone += whole * n
	return fresh(t.bytes[from : from+n]), api.OK
}
