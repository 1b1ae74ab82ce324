package vec_test

import (
	"math"
	"math/big"
	"testing"

	"shunter/api"
	"shunter/ground"
	"shunter/vec"
	"shunter/word"
)

var one = big.NewInt(1)

// power is 2^n.
func power(n int) *big.Int {
	return new(big.Int).Lsh(one, uint(n))
}

func number(v api.Vec) *big.Int {
	n := new(big.Int).SetUint64(v.Hi)
	return n.Add(n.Lsh(n, 64), new(big.Int).SetUint64(v.Lo))
}

// row has w bits of any number, of one below 0 too.
func row(w int, n *big.Int) api.Vec {
	m := new(big.Int).Mod(n, power(w))
	lo := new(big.Int).And(m, new(big.Int).SetUint64(math.MaxUint64))
	return api.Vec{W: w, Hi: new(big.Int).Rsh(m, 64).Uint64(), Lo: lo.Uint64()}
}

func small(w int, n uint64) api.Vec {
	return api.Vec{W: w, Lo: n}
}

// greatest is 2^w - 1, w wide.
func greatest(w int) api.Vec {
	return row(w, new(big.Int).Sub(power(w), one))
}

func truth(b bool) api.Vec {
	if b {
		return small(1, 1)
	}
	return small(1, 0)
}

func widths() []int {
	return []int{1, 2, 3, 7, 8, 9, 31, 32, 33, 48, 63, 64, 65, 66, 95, 127, 128}
}

func wrongWidths() []int {
	return []int{math.MinInt, math.MinInt32, -129, -128, -64, -8, -1, 0, 129, 130, 192, 256, 1 << 16, math.MaxInt32, math.MaxInt}
}

// sample has the same rows of a width in each run: those about the edges, and some that are mixed by a fixed rule.
func sample(w int) []api.Vec {
	var l []api.Vec
	for _, k := range []int64{0, 1, 2, -1, -2} {
		l = append(l, row(w, big.NewInt(k)), row(w, new(big.Int).Add(power(w/2), big.NewInt(k))), row(w, new(big.Int).Add(power(w-1), big.NewInt(k))))
	}
	x := uint64(w)
	for range 12 {
		hi := ground.Number(&x)
		lo := ground.Number(&x)
		l = append(l, row(w, number(api.Vec{Hi: hi, Lo: lo})))
	}
	return l
}

// each calls f with all samples of all widths.
func each(f func(a api.Vec)) {
	for _, w := range widths() {
		for _, a := range sample(w) {
			f(a)
		}
	}
}

// wrongRows are rows that may not be: of no width, or with a number that their width doesn't hold.
func wrongRows() []api.Vec {
	var l []api.Vec
	for _, w := range wrongWidths() {
		l = append(l, small(w, 0), small(w, 1), api.Vec{W: w, Hi: math.MaxUint64, Lo: math.MaxUint64})
	}
	for _, w := range widths() {
		if w == api.MaxWidth {
			continue
		}
		least := row(w+1, power(w))
		l = append(l, api.Vec{W: w, Hi: least.Hi, Lo: least.Lo}, api.Vec{W: w, Hi: math.MaxUint64, Lo: math.MaxUint64})
	}
	return append(l, api.Vec{W: 8, Hi: 1}, api.Vec{W: 64, Hi: 1 << 63}, api.Vec{W: 1, Hi: 1 << 63, Lo: 1})
}

// gives holds what was answered with OK against what it must be, and against promise 2.6: it may be.
func gives(t *testing.T, v api.Vec, e api.Errno, want api.Vec, call string, args ...any) {
	t.Helper()
	if v != want || e != api.OK {
		t.Fatalf("%s%v = %v, %d; want %v", call, args, v, e, want)
	}
	if !vec.May(v) {
		t.Fatalf("%s%v = %v, which may not be", call, args, v)
	}
}

// refuses holds an error against what it must be, and asks that nothing stands beside it.
func refuses(t *testing.T, v api.Vec, e, want api.Errno, call string, args ...any) {
	t.Helper()
	if v != (api.Vec{}) || e != want {
		t.Fatalf("%s%v = %v, %d; want none, %d", call, args, v, e, want)
	}
}

func asWord(n *big.Int) word.Word {
	v := row(128, n)
	return word.Word{Hi: v.Hi, Lo: v.Lo}
}
