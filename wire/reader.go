package wire

import (
	"slices"

	"shunter/api"
	"shunter/name"
	"shunter/vec"
	"shunter/word"
)

// spot is where a reader is, and what was wrong first. That begins where the reader is, for from then on nothing is taken.
type spot struct {
	at    int
	first api.Errno
}

func (s *spot) fail(e api.Errno) {
	if s.first == api.OK {
		s.first = e
	}
}

// Reader reads what is made of bytes.
type Reader struct {
	bytes []byte
	spot
}

// Read is a reader of bytes.
func Read(b []byte) *Reader {
	return &Reader{bytes: slices.Clone(b)}
}

// Byte reads a number of one byte.
func (r *Reader) Byte(most int) int {
	return r.number(1, most, api.ErrRange)
}

// Two reads a number of two bytes.
func (r *Reader) Two(most int) int {
	return r.number(2, most, api.ErrRange)
}

// Four reads a number of four bytes.
func (r *Reader) Four(most int) int {
	return r.number(4, most, api.ErrRange)
}

// Vec reads a row.
func (r *Reader) Vec() api.Vec {
	return take(r, rowOf)
}

// Name reads a name.
func (r *Reader) Name() string {
	return take(r, nameOf)
}

// Vecs reads a list of rows.
func (r *Reader) Vecs(most int) []api.Vec {
	return listOf(r, most, r.Vec)
}

// Numbers reads a list of numbers.
func (r *Reader) Numbers(count, most int) []int {
	return listOf(r, count, func() int { return r.Byte(most) })
}

// At is how many bytes were taken.
func (r *Reader) At() int {
	if r == nil {
		return 0
	}
	return r.at
}

// Left is how many bytes are left.
func (r *Reader) Left() int {
	if r == nil {
		return 0
	}
	return len(r.bytes) - r.at
}

// Bad tells whether there was a fault.
func (r *Reader) Bad() bool {
	return r == nil || r.first != api.OK
}

// Fail is at fault where it is.
func (r *Reader) Fail(e api.Errno) {
	if r != nil {
		r.fail(e)
	}
}

// End is the first fault.
func (r *Reader) End() error {
	switch {
	case r == nil:
		return &Fault{E: api.ErrArg}
	case r.first != api.OK:
		return &Fault{E: r.first, At: r.at}
	case r.Left() > 0:
		return &Fault{E: api.ErrLong, At: r.at}
	}
	return nil
}

// take is what the bytes that are left begin with. Here alone a reader goes on, or meets a fault, so that it is never within a thing.
func take[T any](r *Reader, first func(b []byte) (x T, count int, e api.Errno)) T {
	var none T
	if r.Bad() {
		return none
	}
	x, count, e := first(r.bytes[r.at:])
	if e != api.OK {
		r.fail(e)
		return none
	}
	r.at += count
	return x
}

// number has e of one that is above most.
func (r *Reader) number(count, most int, e api.Errno) int {
	return take(r, func(b []byte) (int, int, api.Errno) {
		if len(b) < count {
			return 0, 0, api.ErrEnd
		}
		n := int(wordOf(b[:count]).Lo)
		if n > most {
			return 0, 0, e
		}
		return n, count, api.OK
	})
}

func listOf[T any](r *Reader, most int, one func() T) []T {
	var l []T
	for range r.number(1, most, api.ErrLong) {
		l = append(l, one())
	}
	if r.Bad() {
		return nil
	}
	return l
}

func rowOf(b []byte) (api.Vec, int, api.Errno) {
	if len(b) == 0 {
		return api.Vec{}, 0, api.ErrEnd
	}
	w := int(b[0])
	if w < 1 || w > api.MaxWidth {
		return api.Vec{}, 0, api.ErrWidth
	}
	end := 1 + holding(w)
	if len(b) < end {
		return api.Vec{}, 0, api.ErrEnd
	}
	x := wordOf(b[1:end])
	v, e := vec.New(w, x.Hi, x.Lo)
	if e != api.OK { // a bit is set above the width, within the highest byte
		return api.Vec{}, 0, api.ErrForm
	}
	return v, end, api.OK
}

func nameOf(b []byte) (string, int, api.Errno) {
	if len(b) == 0 {
		return "", 0, api.ErrEnd
	}
	end := 1 + int(b[0])
	if len(b) < end {
		return "", 0, api.ErrEnd
	}
	s := string(b[1:end])
	if !name.May(s) {
		return "", 0, api.ErrForm
	}
	return s, end, api.OK
}

// wordOf needs at most as many bytes as a word has.
func wordOf(b []byte) word.Word {
	var x word.Word
	for _, c := range b {
		x = word.Or(word.Shl(x, whole), word.Word{Lo: uint64(c)})
	}
	return x
}
