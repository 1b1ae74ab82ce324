package trie_test

import (
	"testing"

	"shunter/api"
	"shunter/ground"
	"shunter/trie"
)

// short are all prefixes of a width, and rows all its rows.
func short(w int) (l []string, rows []api.Vec) {
	for long := range w + 1 {
		for n := range 1 << long {
			l = append(l, text(api.Vec{W: long, Lo: uint64(n)}))
		}
	}
	for n := range 1 << w {
		rows = append(rows, api.Vec{W: w, Lo: uint64(n)})
	}
	return l, rows
}

// Promises 20.2 and 20.3, on all tries of the widths 1 to 3: each set of prefixes, and each row.
func TestAllTries(t *testing.T) {
	for w := 1; w <= 3; w++ {
		l, rows := short(w)
		for set := range 1 << len(l) {
			var in []string
			for i, s := range l {
				// Another order for each set.
				if set>>i&1 == 1 && set%3 == 0 {
					in = append([]string{s}, in...)
				} else if set>>i&1 == 1 {
					in = append(in, s)
				}
			}
			x, want := of(t, w, max(len(in), 1), in...)
			holds(t, x, want, rows, w, in)
		}
	}
}

// Promise 20.3: behind a Drop all is as ahead of the Put, whichever prefixes stay: of the width 2 in whatever order.
func TestAllOrders(t *testing.T) {
	l, rows := short(2)
	x, want := of(t, 2, 4)
	more(t, x, want, l, rows, 4)
}

func more(t *testing.T, x *trie.Trie, want *model, l []string, rows []api.Vec, left int) {
	t.Helper()
	holds(t, x, want, rows)
	if left == 0 {
		return
	}
	for i, s := range l {
		v := prefix(2, s, '0')
		next, then := x.Copy(), want.copy()
		if next.Put(v, len(s), i) == api.OK {
			is(t, next.Drop(v, len(s)), api.OK, "Drop", s)
			holds(t, next, want, rows, "behind a Drop", s)
			is(t, next.Put(v, len(s), i), then.put(v, len(s), i), "Put", s)
		} else {
			is(t, next.Drop(v, len(s)), then.drop(v, len(s)), "Drop", s)
		}
		more(t, next, then, l, rows, left-1)
	}
}

// Promise 20.3, on mixed calls: tries of few prefixes, and of many, of some widths.
func TestMixedCalls(t *testing.T) {
	for _, w := range []int{1, 2, 5, 8, 16, 32, 48, 63, 64, 65, 127, 128} {
		for most := 1; most <= 256; most = most*3 + 1 {
			seed := uint64(w*1000 + most)
			below := func(n int) int { return int(ground.Number(&seed) % uint64(n)) }
			l := some(&seed, w, min(most+most/2+2, 1<<(min(w, 10)+1)-1))
			x, want := of(t, w, most)
			for step := range 150 + 2*most {
				s := l[below(len(l))]
				v, long := prefix(w, s, '0'), len(s)
				// In turn more comes than goes, and more goes than comes, so that the trie is full, and empty, again and again.
				more := step/(2*most+20)%2 == 0
				call := below(8)
				switch {
				case call == 0:
					is(t, x.Set(v, long, step), want.set(v, long, step), w, most, step, "Set", s)
				case call == 1:
					v, long = prefix(w, s, '1'), below(w+3)-1
					is(t, x.Put(v, long, step), want.put(v, long, step), w, most, step, "Put", v, long)
				case call > 2 == more:
					is(t, x.Put(v, long, step), want.put(v, long, step), w, most, step, "Put", s)
				default:
					is(t, x.Drop(v, long), want.drop(v, long), w, most, step, "Drop", s)
				}
				if step%(1+most/8) == 0 {
					holds(t, x, want, keys(w, []string{s, l[below(len(l))]}), w, most, step, call, s)
				}
			}
			holds(t, x, want, keys(w, l[:min(len(l), 60)]), w, most)
		}
	}
}
