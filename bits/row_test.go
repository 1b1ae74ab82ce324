package bits_test

import (
	"bytes"
	"slices"
	"strings"
	"testing"

	"shunter/api"
	"shunter/bits"
	"shunter/ground"
)

const most = 73728

// adds puts a row behind, and asks that it is taken.
func adds(t *testing.T, r *bits.Row, v api.Vec) {
	t.Helper()
	if e := r.Add(v); e != api.OK {
		t.Fatalf("Add(%v) behind %d bits: %d", v, r.Len(), e)
	}
}

func addsBytes(t *testing.T, r *bits.Row, b []byte) {
	t.Helper()
	if e := r.Bytes(b); e != api.OK {
		t.Fatalf("Bytes of %d bytes behind %d bits: %d", len(b), r.Len(), e)
	}
}

// holds asks for all that a Row tells.
func holds(t *testing.T, r *bits.Row, s string) {
	t.Helper()
	if r.Len() != len(s) || !bytes.Equal(r.All(), packed(s)) {
		t.Fatalf("a row of %d bits, %x; want %d, %x", r.Len(), r.All(), len(s), packed(s))
	}
}

// filled has so many bits, and the model of them.
func filled(t *testing.T, n int) (*bits.Row, string) {
	t.Helper()
	r, b := &bits.Row{}, ground.Bytes(n/8)
	addsBytes(t, r, b)
	s := spread(b)
	if n%8 != 0 {
		rest := spread([]byte{0xb6})[:n%8]
		adds(t, r, row(rest))
		s += rest
	}
	holds(t, r, s)
	return r, s
}

// Promise 3.2.

func TestRowWithoutBits(t *testing.T) {
	var r bits.Row
	holds(t, &r, "")
	holds(t, new(bits.Row), "")
	addsBytes(t, &r, nil)
	addsBytes(t, &r, []byte{})
	holds(t, &r, "")
}

func TestRowAdd(t *testing.T) {
	for n := range 18 {
		for _, w := range widths() {
			for _, v := range sample(w) {
				r, s := filled(t, n)
				adds(t, r, v)
				s += digits(v)
				holds(t, r, s)
				// Behind noughts that filled a byte up other bits stand in their place.
				adds(t, r, api.Vec{W: 9, Lo: 0x1ff})
				holds(t, r, s+"111111111")
			}
		}
	}
}

func TestRowOfManyRows(t *testing.T) {
	var r bits.Row
	s := ""
	for _, w := range widths() {
		for _, v := range sample(w) {
			adds(t, &r, v)
			s += digits(v)
			holds(t, &r, s)
		}
	}
}

func TestRowBytes(t *testing.T) {
	var r bits.Row
	addsBytes(t, &r, []byte{1, 2})
	adds(t, &r, api.Vec{W: 3, Lo: 5})
	adds(t, &r, api.Vec{W: 5, Lo: 1})
	addsBytes(t, &r, []byte{0xfe})
	addsBytes(t, &r, nil)
	adds(t, &r, api.Vec{W: 1, Lo: 1})
	holds(t, &r, spread([]byte{1, 2, 0xa1, 0xfe})+"1")
}

func TestRowFillsUpWithNoughts(t *testing.T) {
	for _, c := range []struct {
		v    api.Vec
		want []byte
	}{
		{api.Vec{W: 1, Lo: 1}, []byte{0x80}},
		{api.Vec{W: 7, Lo: 0x7f}, []byte{0xfe}},
		{api.Vec{W: 8, Lo: 0xff}, []byte{0xff}},
		{api.Vec{W: 9, Lo: 0x1ff}, []byte{0xff, 0x80}},
		{api.Vec{W: 65, Hi: 1}, []byte{0x80, 0, 0, 0, 0, 0, 0, 0, 0}},
	} {
		var r bits.Row
		adds(t, &r, c.v)
		if all := r.All(); !bytes.Equal(all, c.want) || r.Len() != c.v.W {
			t.Errorf("All of %v = %x, %d bits", c.v, all, r.Len())
		}
	}
}

func TestRowOfWrongRows(t *testing.T) {
	for _, n := range []int{0, 3, 16, most - 1, most} {
		r, s := filled(t, n)
		for _, v := range wrongRows() {
			if e := r.Add(v); e != api.ErrArg {
				t.Fatalf("Add(%v) behind %d bits: %d", v, n, e)
			}
		}
		holds(t, r, s)
	}
}

// There may be just 73,728 bits, whatever they come of.
func TestRowAtItsEnd(t *testing.T) {
	for _, w := range widths() {
		r, s := filled(t, most-w)
		for _, v := range []api.Vec{{W: w + 1}, {W: 128}} {
			if v.W > 128 || v.W <= w {
				continue
			}
			if e := r.Add(v); e != api.ErrLong {
				t.Fatalf("Add of %d bits behind %d: %d", v.W, r.Len(), e)
			}
		}
		holds(t, r, s)
		v := row(strings.Repeat("1", w))
		adds(t, r, v)
		s += digits(v)
		for _, w := range widths() {
			if e := r.Add(api.Vec{W: w}); e != api.ErrLong {
				t.Fatalf("Add of %d bits behind all: %d", w, e)
			}
		}
		holds(t, r, s)
	}
}

func TestRowOfBytesAtItsEnd(t *testing.T) {
	for _, n := range []int{0, 1, 2, 17, 9215, 9216} {
		r, s := filled(t, most-8*n)
		for _, k := range []int{n + 1, n + 2, 9216 + n + 1, 1 << 20} {
			if e := r.Bytes(make([]byte, k)); e != api.ErrLong {
				t.Fatalf("%d bytes behind %d bits: %d", k, r.Len(), e)
			}
		}
		holds(t, r, s)
		b := bytes.Repeat([]byte{0xc3}, n)
		addsBytes(t, r, b)
		s += spread(b)
		if e := r.Bytes([]byte{0}); e != api.ErrLong {
			t.Fatalf("a byte behind all: %d", e)
		}
		addsBytes(t, r, nil)
		holds(t, r, s)
	}
}

// Bytes behind bits that don't make whole bytes: none and too many are told so, too.
func TestRowOfBytesNotNow(t *testing.T) {
	for _, n := range []int{1, 2, 3, 4, 5, 6, 7, 9, 127, most - 1, most - 7} {
		r, s := filled(t, n)
		for _, b := range [][]byte{nil, {}, {1}, {1, 2}, make([]byte, 9216), make([]byte, 9217)} {
			if e := r.Bytes(b); e != api.ErrState {
				t.Fatalf("%d bytes behind %d bits: %d", len(b), n, e)
			}
		}
		holds(t, r, s)
		rest := strings.Repeat("1", 8-n%8)
		adds(t, r, row(rest))
		addsBytes(t, r, nil)
		holds(t, r, s+rest)
	}
}

func TestNilRow(t *testing.T) {
	var r *bits.Row
	for _, v := range append(wrongRows(), sample(8)...) {
		if e := r.Add(v); e != api.ErrArg {
			t.Errorf("Add(%v) to none: %d", v, e)
		}
	}
	for _, b := range [][]byte{nil, {}, {1}, make([]byte, 9217)} {
		if e := r.Bytes(b); e != api.ErrArg {
			t.Errorf("%d bytes to none: %d", len(b), e)
		}
	}
	if r.Len() != 0 || len(r.All()) != 0 {
		t.Errorf("of none: %d, %x", r.Len(), r.All())
	}
}

// What is handed in isn't changed or kept, and what was told isn't changed by what is put behind, or the other way round.
func TestRowIsNewMemory(t *testing.T) {
	var r bits.Row
	b := ground.Roomy([]byte{1, 2, 3})
	array := slices.Clone(b[:cap(b)])
	addsBytes(t, &r, b)
	first, same := r.All(), r.All()
	adds(t, &r, api.Vec{W: 4, Lo: 0xf})
	second := r.All()
	adds(t, &r, api.Vec{W: 4, Lo: 0xa})
	addsBytes(t, &r, []byte{7})
	isBytes(t, b[:cap(b)], api.OK, array, "what was handed in:")
	isBytes(t, first, api.OK, []byte{1, 2, 3}, "what was told first:")
	isBytes(t, second, api.OK, []byte{1, 2, 3, 0xf0}, "what was told then:")
	want := spread([]byte{1, 2, 3, 0xfa, 7})
	ground.Turn(b)
	holds(t, &r, want)
	ground.Turn(first)
	ground.Turn(second)
	isBytes(t, same, api.OK, []byte{1, 2, 3}, "what was told once more:")
	holds(t, &r, want)
	all := r.All()
	addsBytes(t, &r, all)
	isBytes(t, all, api.OK, packed(want), "what was told, and put behind:")
	ground.Turn(all)
	holds(t, &r, want+want)
}
