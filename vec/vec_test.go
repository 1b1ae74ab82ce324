package vec_test

import (
	"math"
	"math/big"
	"testing"

	"shunter/api"
	"shunter/vec"
	"shunter/word"
)

// Promise 2.1.

func TestMay(t *testing.T) {
	each(func(a api.Vec) {
		if !vec.May(a) {
			t.Errorf("%v may be", a)
		}
	})
	for _, a := range wrongRows() {
		if vec.May(a) {
			t.Errorf("%v may not be", a)
		}
	}
	for w := 1; w <= 128; w++ {
		if g := greatest(w); !vec.May(g) {
			t.Errorf("%v, 2^%d - 1, may be", g, w)
		}
		if w == 128 {
			break
		}
		over := row(w+1, power(w))
		over.W = w
		if vec.May(over) {
			t.Errorf("%v, 2^%d, may not be", over, w)
		}
	}
}

func TestMayEdges(t *testing.T) {
	most := uint64(math.MaxUint64)
	for _, c := range []struct {
		v    api.Vec
		want bool
	}{
		{api.Vec{}, false}, {api.Vec{W: -1}, false}, {api.Vec{W: math.MinInt}, false},
		{api.Vec{W: 1}, true}, {api.Vec{W: 1, Lo: 1}, true}, {api.Vec{W: 1, Lo: 2}, false},
		{api.Vec{W: 64, Lo: most}, true}, {api.Vec{W: 64, Hi: 1}, false},
		{api.Vec{W: 65, Hi: 1, Lo: most}, true}, {api.Vec{W: 65, Hi: 2}, false},
		{api.Vec{W: 128, Hi: most, Lo: most}, true}, {api.Vec{W: 127, Hi: 1 << 63}, false},
		{api.Vec{W: 129}, false}, {api.Vec{W: 129, Lo: 1}, false}, {api.Vec{W: math.MaxInt}, false},
	} {
		if vec.May(c.v) != c.want {
			t.Errorf("May(%v): want %v", c.v, c.want)
		}
	}
}

func TestWord(t *testing.T) {
	each(func(a api.Vec) {
		if x := vec.Word(a); x != asWord(number(a)) {
			t.Errorf("Word(%v) = %x", a, x)
		}
	})
	for _, a := range wrongRows() {
		if x := vec.Word(a); x != (word.Word{Hi: a.Hi, Lo: a.Lo}) {
			t.Errorf("Word(%v) = %x", a, x)
		}
	}
}

func TestNew(t *testing.T) {
	each(func(a api.Vec) {
		v, e := vec.New(a.W, a.Hi, a.Lo)
		gives(t, v, e, a, "New", a)
	})
	for w := 1; w <= 128; w++ {
		g := greatest(w)
		v, e := vec.New(w, g.Hi, g.Lo)
		gives(t, v, e, g, "New", w, "2^w - 1")
		if w == 128 {
			break
		}
		over := row(w+1, power(w))
		v, e = vec.New(w, over.Hi, over.Lo)
		refuses(t, v, e, api.ErrRange, "New", w, "2^w")
		v, e = vec.New(w, math.MaxUint64, math.MaxUint64)
		refuses(t, v, e, api.ErrRange, "New", w, "2^128 - 1")
	}
	v, e := vec.New(64, 1, 0)
	refuses(t, v, e, api.ErrRange, "New", 64, 1, 0)
	v, e = vec.New(1, 1, 1)
	refuses(t, v, e, api.ErrRange, "New", 1, 1, 1)
}

// A wrong width is told, of a number that is too great, too.
func TestNewOfWrongWidths(t *testing.T) {
	for _, w := range wrongWidths() {
		for _, x := range []uint64{0, 1, math.MaxUint64} {
			v, e := vec.New(w, x, x)
			refuses(t, v, e, api.ErrWidth, "New", w, x, x)
			v, e = vec.Cut(w, word.Word{Hi: x, Lo: x})
			refuses(t, v, e, api.ErrWidth, "Cut", w, x, x)
		}
	}
}

func TestCut(t *testing.T) {
	for w := 1; w <= 128; w++ {
		for _, a := range append(sample(128), greatest(w), row(128, power(w%128))) {
			v, e := vec.Cut(w, vec.Word(a))
			gives(t, v, e, row(w, number(a)), "Cut", w, a)
		}
	}
}

func TestTruth(t *testing.T) {
	if v := vec.Truth(true); v != (api.Vec{W: 1, Lo: 1}) || !vec.May(v) {
		t.Errorf("Truth(true) = %v", v)
	}
	if v := vec.Truth(false); v != (api.Vec{W: 1}) || !vec.May(v) {
		t.Errorf("Truth(false) = %v", v)
	}
}

// Promise 2.2, of one row.

func TestNotAndNeg(t *testing.T) {
	each(func(a api.Vec) {
		v, e := vec.Not(a)
		gives(t, v, e, row(a.W, new(big.Int).Not(number(a))), "Not", a)
		v, e = vec.Neg(a)
		gives(t, v, e, row(a.W, new(big.Int).Neg(number(a))), "Neg", a)
	})
	for _, a := range wrongRows() {
		v, e := vec.Not(a)
		refuses(t, v, e, api.ErrArg, "Not", a)
		v, e = vec.Neg(a)
		refuses(t, v, e, api.ErrArg, "Neg", a)
	}
}

func TestNotAndNegEdges(t *testing.T) {
	for w := 1; w <= 128; w++ {
		nought, unit, ones := small(w, 0), small(w, 1), greatest(w)
		v, e := vec.Not(nought)
		gives(t, v, e, ones, "Not", nought)
		v, e = vec.Not(ones)
		gives(t, v, e, nought, "Not", ones)
		v, e = vec.Neg(nought)
		gives(t, v, e, nought, "Neg", nought)
		v, e = vec.Neg(unit)
		gives(t, v, e, ones, "Neg", unit)
		v, e = vec.Neg(ones)
		gives(t, v, e, unit, "Neg", ones)
	}
}

// moves has all that is near to an edge, none of it below 0.
func moves() []int {
	l := []int{1000, 1 << 16, math.MaxInt32, math.MaxInt32 + 1, 1 << 32, 1<<32 + 1, math.MaxInt - 1, math.MaxInt}
	for n := range 260 {
		l = append(l, n)
	}
	return l
}

func TestMoves(t *testing.T) {
	each(func(a api.Vec) {
		for _, n := range moves() {
			// More than 128 places leave as little as 128 do.
			k := uint(min(n, 128))
			v, e := vec.Shl(a, n)
			gives(t, v, e, row(a.W, new(big.Int).Lsh(number(a), k)), "Shl", a, n)
			v, e = vec.Shr(a, n)
			gives(t, v, e, row(a.W, new(big.Int).Rsh(number(a), k)), "Shr", a, n)
		}
	})
}

func TestMoveEdges(t *testing.T) {
	for w := 1; w <= 128; w++ {
		ones, nought := greatest(w), small(w, 0)
		top := row(w, power(w-1))
		for _, n := range []int{w, w + 1, 2 * w, 128, 129, 256, math.MaxInt} {
			n = max(n, w)
			v, e := vec.Shl(ones, n)
			gives(t, v, e, nought, "Shl", ones, n)
			v, e = vec.Shr(ones, n)
			gives(t, v, e, nought, "Shr", ones, n)
		}
		v, e := vec.Shl(ones, 0)
		gives(t, v, e, ones, "Shl", ones, 0)
		v, e = vec.Shr(ones, 0)
		gives(t, v, e, ones, "Shr", ones, 0)
		v, e = vec.Shl(ones, w-1)
		gives(t, v, e, top, "Shl", ones, w-1)
		v, e = vec.Shr(ones, w-1)
		gives(t, v, e, small(w, 1), "Shr", ones, w-1)
	}
}

// What may not be is told before a number of places that may not be.
func TestMoveFaults(t *testing.T) {
	for _, n := range []int{-1, -2, -8, -64, -128, -129, math.MinInt32, math.MinInt + 1, math.MinInt} {
		each(func(a api.Vec) {
			v, e := vec.Shl(a, n)
			refuses(t, v, e, api.ErrRange, "Shl", a, n)
			v, e = vec.Shr(a, n)
			refuses(t, v, e, api.ErrRange, "Shr", a, n)
		})
	}
	for _, a := range wrongRows() {
		for _, n := range []int{math.MinInt, -1, 0, 1, 128, math.MaxInt} {
			v, e := vec.Shl(a, n)
			refuses(t, v, e, api.ErrArg, "Shl", a, n)
			v, e = vec.Shr(a, n)
			refuses(t, v, e, api.ErrArg, "Shr", a, n)
		}
	}
}

// Promise 2.3.

func TestSlice(t *testing.T) {
	for _, w := range widths() {
		for _, a := range []api.Vec{greatest(w), small(w, 0), sample(w)[15], sample(w)[16]} {
			for lo := range w {
				for hi := lo; hi < w; hi++ {
					v, e := vec.Slice(a, hi, lo)
					gives(t, v, e, row(hi-lo+1, new(big.Int).Rsh(number(a), uint(lo))), "Slice", a, hi, lo)
				}
			}
		}
	}
}

func TestSliceEdges(t *testing.T) {
	each(func(a api.Vec) {
		v, e := vec.Slice(a, a.W-1, 0)
		gives(t, v, e, a, "Slice", a, a.W-1, 0)
		for i := range a.W {
			v, e = vec.Slice(a, i, i)
			gives(t, v, e, small(1, uint64(number(a).Bit(i))), "Slice", a, i, i)
		}
	})
	a := api.Vec{W: 12, Lo: 0xabc}
	v, e := vec.Slice(a, 11, 8)
	gives(t, v, e, small(4, 0xa), "Slice", a, 11, 8)
	v, e = vec.Slice(a, 3, 0)
	gives(t, v, e, small(4, 0xc), "Slice", a, 3, 0)
}

// What may not be is told before bounds that may not be.
func TestSliceFaults(t *testing.T) {
	each(func(a api.Vec) {
		for _, c := range [][2]int{
			{0, 1}, {a.W - 1, a.W}, {a.W, 0}, {a.W, a.W}, {a.W + 1, 0}, {-1, 0}, {0, -1}, {-1, -1}, {a.W - 1, -1},
			{math.MaxInt, 0}, {math.MaxInt, math.MaxInt}, {math.MaxInt, math.MinInt}, {math.MinInt, math.MinInt},
			{math.MinInt, math.MaxInt}, {0, math.MinInt}, {math.MinInt, 0}, {-1, -2}, {-2, -1}, {128, 128}, {128, 0},
		} {
			v, e := vec.Slice(a, c[0], c[1])
			refuses(t, v, e, api.ErrRange, "Slice", a, c)
		}
		for lo := 1; lo < a.W; lo++ {
			v, e := vec.Slice(a, lo-1, lo)
			refuses(t, v, e, api.ErrRange, "Slice", a, lo-1, lo)
		}
	})
	for _, a := range wrongRows() {
		for _, c := range [][2]int{{0, 0}, {1, 0}, {0, 1}, {a.W, 0}, {0, -1}, {math.MaxInt, math.MinInt}} {
			v, e := vec.Slice(a, c[0], c[1])
			refuses(t, v, e, api.ErrArg, "Slice", a, c)
		}
	}
}

func TestCat(t *testing.T) {
	each(func(a api.Vec) {
		each(func(b api.Vec) {
			v, e := vec.Cat(a, b)
			if a.W+b.W > 128 {
				refuses(t, v, e, api.ErrWidth, "Cat", a, b)
				return
			}
			n := new(big.Int).Lsh(number(a), uint(b.W))
			gives(t, v, e, row(a.W+b.W, n.Add(n, number(b))), "Cat", a, b)
		})
	})
}

// Rows that have 128 bits together, and 129.
func TestCatEdges(t *testing.T) {
	for w := 1; w < 128; w++ {
		for _, c := range [][2]api.Vec{{greatest(w), greatest(128 - w)}, {greatest(w), small(128-w, 0)}, {small(w, 0), greatest(128 - w)}, {small(w, 1), small(128-w, 1)}} {
			n := new(big.Int).Lsh(number(c[0]), uint(128-w))
			v, e := vec.Cat(c[0], c[1])
			gives(t, v, e, row(128, n.Add(n, number(c[1]))), "Cat", c)
		}
	}
	for w := 1; w <= 128; w++ {
		a, b := greatest(w), small(129-w, 0)
		v, e := vec.Cat(a, b)
		refuses(t, v, e, api.ErrWidth, "Cat", a, b)
		v, e = vec.Cat(b, a)
		refuses(t, v, e, api.ErrWidth, "Cat", b, a)
	}
	v, e := vec.Cat(greatest(128), greatest(128))
	refuses(t, v, e, api.ErrWidth, "Cat", 128, 128)
}

// What may not be is told before a width of more than 128.
func TestCatOfWrongRows(t *testing.T) {
	for _, a := range wrongRows() {
		for _, b := range append(wrongRows(), small(1, 0), greatest(64), greatest(128)) {
			v, e := vec.Cat(a, b)
			refuses(t, v, e, api.ErrArg, "Cat", a, b)
			v, e = vec.Cat(b, a)
			refuses(t, v, e, api.ErrArg, "Cat", b, a)
		}
	}
}

func TestCast(t *testing.T) {
	each(func(a api.Vec) {
		for w := 1; w <= 128; w++ {
			v, e := vec.Cast(a, w)
			gives(t, v, e, row(w, number(a)), "Cast", a, w)
		}
		for _, w := range wrongWidths() {
			v, e := vec.Cast(a, w)
			refuses(t, v, e, api.ErrWidth, "Cast", a, w)
		}
	})
}

// What may not be is told before a width that may not be.
func TestCastOfWrongRows(t *testing.T) {
	for _, a := range wrongRows() {
		for _, w := range append(wrongWidths(), widths()...) {
			v, e := vec.Cast(a, w)
			refuses(t, v, e, api.ErrArg, "Cast", a, w)
		}
	}
}

func TestPrefix(t *testing.T) {
	for w := 1; w <= 128; w++ {
		for n := 0; n <= w; n++ {
			ones := new(big.Int).Sub(power(n), one)
			v, e := vec.Prefix(w, n)
			gives(t, v, e, row(w, ones.Lsh(ones, uint(w-n))), "Prefix", w, n)
		}
		for _, n := range []int{math.MinInt, -128, -2, -1, w + 1, w + 2, 2*w + 1, 129, 256, math.MaxInt} {
			v, e := vec.Prefix(w, n)
			refuses(t, v, e, api.ErrPrefix, "Prefix", w, n)
		}
	}
	v, e := vec.Prefix(32, 8)
	gives(t, v, e, small(32, 0xff000000), "Prefix", 32, 8)
	v, e = vec.Prefix(128, 65)
	gives(t, v, e, api.Vec{W: 128, Hi: math.MaxUint64, Lo: 1 << 63}, "Prefix", 128, 65)
}

// A wrong width is told before how many bits count.
func TestPrefixOfWrongWidths(t *testing.T) {
	for _, w := range wrongWidths() {
		for _, n := range []int{math.MinInt, -1, 0, 1, w, 128, math.MaxInt} {
			v, e := vec.Prefix(w, n)
			refuses(t, v, e, api.ErrWidth, "Prefix", w, n)
		}
	}
}

// Promise 2.6.

func TestARowIsTheCatOfItsTwoSlices(t *testing.T) {
	each(func(a api.Vec) {
		for at := 1; at < a.W; at++ {
			upper, e := vec.Slice(a, a.W-1, at)
			if e != api.OK {
				t.Fatalf("Slice(%v, %d, %d): %d", a, a.W-1, at, e)
			}
			lower, e := vec.Slice(a, at-1, 0)
			if e != api.OK {
				t.Fatalf("Slice(%v, %d, 0): %d", a, at-1, e)
			}
			v, e := vec.Cat(upper, lower)
			gives(t, v, e, a, "Cat", upper, lower)
		}
	})
}
