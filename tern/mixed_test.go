package tern_test

import (
	"testing"

	"shunter/api"
	"shunter/ground"
	"shunter/tern"
)

// Promise 21.2, on all rows of a few puts and drops at the width 1: what is there is dropped, what isn't is put. Behind a Put and a Drop all is as ahead of them.
func TestAllOrders(t *testing.T) {
	l, rows := all(1)
	var rules []rule
	for _, s := range l {
		rules = append(rules, rule{s: s, prio: 1}, rule{s: s, prio: 2})
	}
	x, want := of(t, 1, 4)
	more(t, x, want, rules, rows, 6)
}

func more(t *testing.T, x *tern.List, want *model, rules []rule, rows []api.Vec, left int) {
	t.Helper()
	holds(t, x, want, rows)
	if left == 0 {
		return
	}
	for i, r := range rules {
		y := item(r.s, r.prio, 10*left+i)
		next, then := x.Copy(), want.copy()
		if next.Put(y) == api.OK {
			is(t, next.Drop(y), api.OK, "Drop", y)
			holds(t, next, want, rows, "behind a Drop", y)
			is(t, next.Put(y), then.put(y), "Put", y)
		} else {
			is(t, next.Drop(y), then.drop(y), "Drop", y)
		}
		more(t, next, then, rules, rows, left-1)
	}
}

// Promises 21.2 and 21.4, on each three rules of the width 2, in each order, of one rank and of two: each row gets the first one that it meets.
func TestAllThrees(t *testing.T) {
	l, rows := all(2)
	for _, a := range l {
		for _, b := range l {
			for _, c := range l {
				for prios := range 8 {
					x, want := tern.New(2, 3), newModel(2, 3)
					for i, s := range []string{a, b, c} {
						y := item(s, prios>>i&1, i+1)
						is(t, x.Put(y), want.put(y), "Put", y)
					}
					holds(t, x, want, rows, a, b, c, prios)
				}
			}
		}
	}
}

// Promise 21.4, on mixed calls: lists of few rules, and of many, of some widths.
func TestMixedCalls(t *testing.T) {
	for _, w := range []int{4, 5, 8, 16, 32, 48, 63, 64, 65, 127, 128} {
		for most := 1; most <= 256; most = most*3 + 1 {
			seed := uint64(w*1000 + most)
			below := func(n int) int { return int(ground.Number(&seed) % uint64(n)) }
			l := some(&seed, w, min(most+most/2+2, 500))
			x, want := of(t, w, most)
			for step := range 150 + 2*most {
				r := l[below(len(l))]
				y := item(r.s, r.prio, step)
				// In turn more comes than goes, and more goes than comes, so that the list is full, and empty, again and again.
				more := step/(2*most+20)%2 == 0
				call := below(8)
				switch {
				case call == 0:
					is(t, x.Set(y), want.set(y), w, most, step, "Set", y)
				case call == 1:
					y = odd(y, below)
					is(t, calls(x, y), [3]api.Errno{want.put(y), want.set(y), want.drop(y)}, w, most, step, y)
				case call > 2 == more:
					is(t, x.Put(y), want.put(y), w, most, step, "Put", y)
				default:
					is(t, x.Drop(y), want.drop(y), w, most, step, "Drop", y)
				}
				if step%(1+most/8) == 0 {
					holds(t, x, want, keys([]string{r.s, l[below(len(l))].s}), w, most, step, call, y)
				}
			}
			holds(t, x, want, keys(texts(l[:min(len(l), 60)])), w, most)
		}
	}
}

// odd changes one thing of a rule, so that it mostly is none.
func odd(y tern.Item, below func(int) int) tern.Item {
	switch below(6) {
	case 0:
		y.Value.Lo ^= 1 << below(64)
	case 1:
		y.Mask.Lo ^= 1 << below(64)
	case 2:
		y.Value.Hi ^= 1 << below(64)
	case 3:
		y.Mask.Hi ^= 1 << below(64)
	case 4:
		y.Mask.W += below(3) - 1
	default:
		y.Prio += []int{-1, 1, 65536, -65536}[below(4)]
	}
	return y
}
