package vec_test

import (
	"math"
	"math/big"
	"testing"

	"shunter/api"
	"shunter/vec"
)

// Promise 2.2, of two rows.

// operation is a call of two rows, and what the chapter says that it answers.
type operation struct {
	name string
	call func(a, b api.Vec) (api.Vec, api.Errno)
	want func(w int, x, y *big.Int) api.Vec
}

func operations() []operation {
	return []operation{
		{"Add", vec.Add, func(w int, x, y *big.Int) api.Vec { return row(w, new(big.Int).Add(x, y)) }},
		{"Sub", vec.Sub, func(w int, x, y *big.Int) api.Vec { return row(w, new(big.Int).Sub(x, y)) }},
		{"AddSat", vec.AddSat, func(w int, x, y *big.Int) api.Vec {
			if sum := new(big.Int).Add(x, y); sum.Cmp(power(w)) < 0 {
				return row(w, sum)
			}
			return greatest(w)
		}},
		{"SubSat", vec.SubSat, func(w int, x, y *big.Int) api.Vec {
			if x.Cmp(y) >= 0 {
				return row(w, new(big.Int).Sub(x, y))
			}
			return small(w, 0)
		}},
		{"And", vec.And, func(w int, x, y *big.Int) api.Vec { return row(w, new(big.Int).And(x, y)) }},
		{"Or", vec.Or, func(w int, x, y *big.Int) api.Vec { return row(w, new(big.Int).Or(x, y)) }},
		{"Xor", vec.Xor, func(w int, x, y *big.Int) api.Vec { return row(w, new(big.Int).Xor(x, y)) }},
		{"Eq", vec.Eq, func(w int, x, y *big.Int) api.Vec { return truth(x.Cmp(y) == 0) }},
		{"Less", vec.Less, func(w int, x, y *big.Int) api.Vec { return truth(x.Cmp(y) < 0) }},
	}
}

func TestOfTwoRows(t *testing.T) {
	for _, o := range operations() {
		for _, w := range widths() {
			for _, a := range sample(w) {
				for _, b := range sample(w) {
					v, e := o.call(a, b)
					gives(t, v, e, o.want(w, number(a), number(b)), o.name, a, b)
				}
			}
		}
	}
}

// All pairs there are, of the least widths.
func TestOfTwoSmallRows(t *testing.T) {
	for _, o := range operations() {
		for w := 1; w <= 5; w++ {
			for x := range uint64(1) << w {
				for y := range uint64(1) << w {
					a, b := small(w, x), small(w, y)
					v, e := o.call(a, b)
					gives(t, v, e, o.want(w, number(a), number(b)), o.name, a, b)
				}
			}
		}
	}
}

// Sums and differences that just go over, and that just don't, of each width there is.
func TestAtTheGreatestNumber(t *testing.T) {
	for w := 1; w <= 128; w++ {
		nought, unit, ones := small(w, 0), small(w, 1), greatest(w)
		less := row(w, new(big.Int).Sub(number(ones), one))
		for _, c := range []struct {
			name       string
			call       func(a, b api.Vec) (api.Vec, api.Errno)
			a, b, want api.Vec
		}{
			{"Add", vec.Add, ones, unit, nought}, {"Add", vec.Add, less, unit, ones}, {"Add", vec.Add, ones, ones, less},
			{"AddSat", vec.AddSat, ones, unit, ones}, {"AddSat", vec.AddSat, unit, ones, ones},
			{"AddSat", vec.AddSat, less, unit, ones}, {"AddSat", vec.AddSat, ones, ones, ones}, {"AddSat", vec.AddSat, ones, nought, ones},
			{"Sub", vec.Sub, nought, unit, ones}, {"Sub", vec.Sub, unit, unit, nought}, {"Sub", vec.Sub, nought, ones, unit},
			{"SubSat", vec.SubSat, nought, unit, nought}, {"SubSat", vec.SubSat, unit, unit, nought},
			{"SubSat", vec.SubSat, nought, ones, nought}, {"SubSat", vec.SubSat, less, ones, nought}, {"SubSat", vec.SubSat, ones, less, unit},
			{"Eq", vec.Eq, ones, ones, truth(true)}, {"Eq", vec.Eq, ones, less, truth(false)}, {"Eq", vec.Eq, nought, unit, truth(false)},
			{"Less", vec.Less, less, ones, truth(true)}, {"Less", vec.Less, ones, ones, truth(false)}, {"Less", vec.Less, ones, less, truth(false)},
		} {
			v, e := c.call(c.a, c.b)
			gives(t, v, e, c.want, c.name, c.a, c.b)
		}
	}
}

// Numbers whose upper halves tell one thing and whose lower ones the other.
func TestHalvesOfNumbers(t *testing.T) {
	a, b := api.Vec{W: 128, Hi: 1, Lo: 2}, api.Vec{W: 128, Hi: 2, Lo: 1}
	v, e := vec.Less(a, b)
	gives(t, v, e, truth(true), "Less", a, b)
	v, e = vec.Less(b, a)
	gives(t, v, e, truth(false), "Less", b, a)
	v, e = vec.Eq(a, api.Vec{W: 128, Hi: 2, Lo: 2})
	gives(t, v, e, truth(false), "Eq", a, "another upper half")
	v, e = vec.Add(api.Vec{W: 128, Lo: math.MaxUint64}, small(128, 1))
	gives(t, v, e, api.Vec{W: 128, Hi: 1}, "Add", "2^64 - 1", 1)
	v, e = vec.SubSat(b, a)
	gives(t, v, e, api.Vec{W: 128, Lo: math.MaxUint64}, "SubSat", b, a)
}

func TestOfTwoWidths(t *testing.T) {
	for _, o := range operations() {
		for _, w := range widths() {
			for _, u := range widths() {
				if u == w {
					continue
				}
				for _, c := range [][2]api.Vec{{small(w, 0), small(u, 0)}, {small(w, 1), small(u, 1)}, {greatest(w), greatest(u)}, {small(w, 0), greatest(u)}} {
					v, e := o.call(c[0], c[1])
					refuses(t, v, e, api.ErrWidth, o.name, c)
				}
			}
		}
	}
}

// What may not be is told first, of rows of two widths and of one.
func TestOfTwoRowsThatMayNotBe(t *testing.T) {
	for _, o := range operations() {
		for _, a := range wrongRows() {
			v, e := o.call(a, a)
			refuses(t, v, e, api.ErrArg, o.name, a, a)
			for _, b := range append(wrongRows(), small(1, 0), small(8, 1), greatest(64), greatest(128)) {
				v, e = o.call(a, b)
				refuses(t, v, e, api.ErrArg, o.name, a, b)
				v, e = o.call(b, a)
				refuses(t, v, e, api.ErrArg, o.name, b, a)
			}
			if a.W < 1 || a.W > 128 {
				continue
			}
			v, e = o.call(a, small(a.W, 0))
			refuses(t, v, e, api.ErrArg, o.name, a, "0 of its width")
			v, e = o.call(small(a.W, 0), a)
			refuses(t, v, e, api.ErrArg, o.name, "0 of its width", a)
		}
	}
}

func TestExamples(t *testing.T) {
	a, b := small(8, 0xff), small(8, 1)
	v, e := vec.Add(a, b)
	gives(t, v, e, small(8, 0), "Add", a, b)
	v, e = vec.AddSat(a, b)
	gives(t, v, e, small(8, 0xff), "AddSat", a, b)
}

// Promise 2.4.

// meets asks bit by bit.
func meets(a, value, mask api.Vec) bool {
	for i := range a.W {
		if number(mask).Bit(i) == 1 && number(a).Bit(i) != number(value).Bit(i) {
			return false
		}
	}
	return true
}

func TestMeets(t *testing.T) {
	for w := 1; w <= 4; w++ {
		for a := range uint64(1) << w {
			for b := range uint64(1) << w {
				for m := range uint64(1) << w {
					x, y, z := small(w, a), small(w, b), small(w, m)
					if got := vec.Meets(x, y, z); got != meets(x, y, z) {
						t.Fatalf("Meets(%v, %v, %v) = %v", x, y, z, got)
					}
				}
			}
		}
	}
	for _, w := range widths() {
		for _, a := range sample(w) {
			for _, b := range sample(w) {
				differs, _ := vec.Xor(a, b)
				agrees, _ := vec.Not(differs)
				for _, m := range []api.Vec{a, b, small(w, 0), greatest(w), differs, agrees} {
					if got := vec.Meets(a, b, m); got != meets(a, b, m) {
						t.Fatalf("Meets(%v, %v, %v) = %v", a, b, m, got)
					}
				}
			}
		}
	}
}

func TestMeetsEdges(t *testing.T) {
	for w := 1; w <= 128; w++ {
		nought, ones := small(w, 0), greatest(w)
		// A mask of 0 asks for nothing; a value's bits outside a mask are of no matter.
		for _, c := range [][2]api.Vec{{nought, ones}, {ones, nought}, {ones, ones}, {nought, nought}} {
			if !vec.Meets(c[0], c[1], nought) {
				t.Errorf("%v must meet %v under 0", c[0], c[1])
			}
		}
		if vec.Meets(ones, nought, ones) || vec.Meets(nought, ones, ones) {
			t.Errorf("0 and 2^%d - 1 don't meet under all bits", w)
		}
		for i := range w {
			bit := row(w, power(i))
			if vec.Meets(bit, nought, bit) || vec.Meets(nought, bit, bit) || !vec.Meets(bit, ones, bit) || !vec.Meets(ones, bit, bit) {
				t.Errorf("under the bit %d of %d: not as that bit says", i, w)
			}
		}
	}
	if !vec.Meets(small(8, 0xab), small(8, 0xa0), small(8, 0xf0)) || vec.Meets(small(8, 0xab), small(8, 0xa0), small(8, 0xf1)) {
		t.Error("8'ab meets 8'a0 under 8'f0, not under 8'f1")
	}
}

// within asks by numbers.
func within(a, lo, hi api.Vec) bool {
	return number(lo).Cmp(number(a)) <= 0 && number(a).Cmp(number(hi)) <= 0
}

func TestWithin(t *testing.T) {
	for _, w := range widths() {
		for _, a := range sample(w) {
			for _, lo := range sample(w) {
				for _, hi := range sample(w) {
					if got := vec.Within(a, lo, hi); got != within(a, lo, hi) {
						t.Fatalf("Within(%v, %v, %v) = %v", a, lo, hi, got)
					}
				}
			}
		}
	}
}

func TestWithinEdges(t *testing.T) {
	lo, hi := small(8, 10), small(8, 20)
	for x := range uint64(256) {
		if got := vec.Within(small(8, x), lo, hi); got != (x >= 10 && x <= 20) {
			t.Errorf("Within(%d, 10, 20) = %v", x, got)
		}
		if vec.Within(small(8, x), hi, lo) {
			t.Errorf("Within(%d, 20, 10) holds", x)
		}
		if got := vec.Within(small(8, x), lo, lo); got != (x == 10) {
			t.Errorf("Within(%d, 10, 10) = %v", x, got)
		}
	}
	for w := 1; w <= 128; w++ {
		nought, ones := small(w, 0), greatest(w)
		if !vec.Within(nought, nought, ones) || !vec.Within(ones, nought, ones) || !vec.Within(ones, ones, ones) || vec.Within(nought, ones, ones) {
			t.Errorf("from 0 to 2^%d - 1: not as it must be", w)
		}
	}
}

// Three rows, of which one may not be, or has another width, neither meet nor lie within, at any place.
func TestMeetsAndWithinOfWrongRows(t *testing.T) {
	none := func(a, b, c api.Vec) {
		t.Helper()
		if vec.Meets(a, b, c) {
			t.Fatalf("Meets(%v, %v, %v) holds", a, b, c)
		}
		if vec.Within(a, b, c) {
			t.Fatalf("Within(%v, %v, %v) holds", a, b, c)
		}
	}
	all := func(odd, even api.Vec) {
		t.Helper()
		none(odd, even, even)
		none(even, odd, even)
		none(even, even, odd)
		none(odd, odd, even)
		none(odd, even, odd)
		none(even, odd, odd)
	}
	for _, a := range wrongRows() {
		none(a, a, a)
		for _, w := range widths() {
			all(a, small(w, 0))
			all(a, greatest(w))
		}
		// Masks, and bounds, under which it would hold but for what may not be.
		none(a, api.Vec{W: a.W}, api.Vec{W: a.W})
		none(api.Vec{W: a.W}, a, api.Vec{W: a.W})
		none(api.Vec{W: a.W}, api.Vec{W: a.W}, a)
		none(a, api.Vec{W: a.W}, api.Vec{W: a.W, Hi: math.MaxUint64, Lo: math.MaxUint64})
	}
	for _, w := range widths() {
		for _, u := range widths() {
			if u != w {
				all(small(w, 0), small(u, 0))
				all(small(w, 1), small(u, 1))
			}
		}
	}
}
