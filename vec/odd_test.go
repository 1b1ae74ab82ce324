package vec_test

import (
	"math"
	"strings"
	"testing"

	"shunter/api"
	"shunter/vec"
	"shunter/word"
)

// oddInts are the numbers at which sums and differences of ints go round, and those near to an edge.
func oddInts() []int {
	return []int{math.MinInt, math.MinInt + 1, math.MinInt + 128, math.MinInt32, -129, -128, -64, -1, 0, 1, 63, 64, 65, 127, 128, 129, math.MaxInt32, math.MaxInt - 128, math.MaxInt - 1, math.MaxInt}
}

// answered holds what any call may answer against promise 2.6, and against the rule of what stands beside an error.
func answered(t *testing.T, v api.Vec, e api.Errno, call string, args ...any) {
	t.Helper()
	if e == api.OK && !vec.May(v) || e != api.OK && v != (api.Vec{}) {
		t.Fatalf("%s%v = %v, %d", call, args, v, e)
	}
}

// Promises P1 and 2.6: each call ends, whatever it is given, and what it answers with OK may be.
func TestOddArguments(t *testing.T) {
	var rows []api.Vec
	for _, w := range oddInts() {
		rows = append(rows, small(w, 0), small(w, 1), api.Vec{W: w, Hi: 1}, api.Vec{W: w, Hi: math.MaxUint64, Lo: math.MaxUint64})
	}
	for _, a := range rows {
		for _, n := range oddInts() {
			v, e := vec.Shl(a, n)
			answered(t, v, e, "Shl", a, n)
			v, e = vec.Shr(a, n)
			answered(t, v, e, "Shr", a, n)
			v, e = vec.Cast(a, n)
			answered(t, v, e, "Cast", a, n)
			v, e = vec.Prefix(a.W, n)
			answered(t, v, e, "Prefix", a.W, n)
			for _, m := range oddInts() {
				v, e = vec.Slice(a, n, m)
				answered(t, v, e, "Slice", a, n, m)
			}
		}
		v, e := vec.New(a.W, a.Hi, a.Lo)
		answered(t, v, e, "New", a)
		v, e = vec.Cut(a.W, word.Word{Hi: a.Hi, Lo: a.Lo})
		answered(t, v, e, "Cut", a)
		for _, b := range rows {
			for _, o := range operations() {
				v, e = o.call(a, b)
				answered(t, v, e, o.name, a, b)
			}
			v, e = vec.Cat(a, b)
			answered(t, v, e, "Cat", a, b)
		}
	}
	for _, s := range []string{"", "'", strings.Repeat("'", 1000), strings.Repeat("9", 1000) + "'1", "999'" + strings.Repeat("f", 1000), "\xff\xfe'\x80", "8'\x80"} {
		v, e := vec.Parse(s)
		answered(t, v, e, "Parse", s)
	}
}
