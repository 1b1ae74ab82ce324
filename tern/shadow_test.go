package tern_test

import (
	"testing"

	"shunter/api"
	"shunter/ground"
	"shunter/tern"
)

// Promises 21.3 and 21.4, on each two rules of the widths 1 to 4: one is Shadowed by another just if no row gets it behind that one.
func TestShadowedOfAllTwo(t *testing.T) {
	for w := 1; w <= 4; w++ {
		l, rows := all(w)
		for _, a := range l {
			for _, b := range l {
				want := true
				for _, key := range rows {
					want = want && (met(text(key), a) || !met(text(key), b))
				}
				first, second := item(a, 1, 1), item(b, 2, 2)
				is(t, tern.Shadowed(first, second), want, "Shadowed", a, b)
				x := tern.New(w, 2)
				is(t, []api.Errno{x.Put(second), x.Put(first)}, []api.Errno{api.OK, api.OK}, "Put", a, b)
				for _, key := range rows {
					n, _, _ := x.Get(key)
					is(t, n == 2 && want, false, "Get of what is Shadowed", a, b, key)
				}
			}
		}
	}
}

// shadowed holds two texts against each other, place by place.
func shadowed(a, b string) bool {
	for i := range len(a) {
		if a[i] != '.' && a[i] != b[i] {
			return false
		}
	}
	return true
}

// Promise 21.3: each bit counts, of each width.
func TestShadowedBitByBit(t *testing.T) {
	for w := 1; w <= 128; w++ {
		seed := uint64(w)
		for round := range 4 {
			var a, b []byte
			for range w {
				c := "01."[ground.Number(&seed)%3]
				a = append(a, c)
				// What a asks for b asks for, too.
				if c == '.' {
					c = "01."[ground.Number(&seed)%3]
				}
				b = append(b, c)
			}
			is(t, tern.Shadowed(item(string(a), 1, 1), item(string(b), 1, 2)), true, "Shadowed", string(a), string(b))
			for i := range w {
				old := b[i]
				for _, c := range []byte("01.") {
					b[i] = c
					is(t, tern.Shadowed(item(string(a), 1, 1), item(string(b), 1, 2)), shadowed(string(a), string(b)), "Shadowed", round, string(a), string(b))
				}
				b[i] = old
			}
		}
	}
}

// Promise 21.3: ranks and numbers are of no matter: who is ahead is told by who comes first.
func TestShadowedOfRanks(t *testing.T) {
	for _, prio := range append(wrongPrios(), 0, 1, 65535) {
		a, b := item("1...", prio, 4), item("1.0.", 7, prio)
		is(t, []bool{tern.Shadowed(a, b), tern.Shadowed(b, a), tern.Shadowed(a, a)}, []bool{true, false, true}, prio)
	}
}

// Promise 21.3: false of rows of unlike widths, and of such as may not be, whichever of the four it is.
func TestShadowedOfWrongRows(t *testing.T) {
	for _, w := range []int{1, 2, 8, 63, 64, 65, 100, 127, 128} {
		for _, v := range wrongRows(w) {
			for part := 1; part < 16; part++ {
				l := [4]api.Vec{{W: w}, {W: w}, {W: w}, {W: w, Lo: 1}}
				for i := range l {
					if part>>i&1 == 1 {
						l[i] = v
					}
				}
				// All four of them may be of one other width.
				want := part == 15 && may(v)
				is(t, tern.Shadowed(tern.Item{Value: l[0], Mask: l[1]}, tern.Item{Value: l[2], Mask: l[3]}), want, w, v, part)
			}
		}
	}
	for w := 1; w < 128; w++ {
		none, one := api.Vec{W: w}, api.Vec{W: w + 1}
		is(t, tern.Shadowed(tern.Item{Value: none, Mask: none}, tern.Item{Value: one, Mask: one}), false, w, "behind a narrower one")
		is(t, tern.Shadowed(tern.Item{Value: one, Mask: one}, tern.Item{Value: none, Mask: none}), false, w, "behind a wider one")
	}
}

// may tells whether a row may be.
func may(v api.Vec) bool {
	return v.W >= 1 && v.W <= 128 && newModel(v.W, 1).fits(v)
}

// Promise 21.3: bits of a value outside its mask are asked for by nobody.
func TestShadowedOfBitsOutside(t *testing.T) {
	a := tern.Item{Value: api.Vec{W: 8, Lo: 0x1c}, Mask: api.Vec{W: 8, Lo: 0xf0}}
	b := tern.Item{Value: api.Vec{W: 8, Lo: 0x11}, Mask: api.Vec{W: 8, Lo: 0xf8}}
	is(t, []bool{tern.Shadowed(a, b), tern.Shadowed(b, a)}, []bool{true, false}, "Shadowed")
}
