package exact_test

import (
	"slices"
	"testing"

	"shunter/api"
	"shunter/exact"
	"shunter/ground"
)

// Promise 19.3, on mixed calls: maps of few things, in which rows stand in each other's way all the time, and of many.
func TestMixedCalls(t *testing.T) {
	for most := 1; most <= 256; most += 1 + most/9 {
		for round := range 6 {
			seed := uint64(most*100 + round)
			below := func(n int) int { return int(ground.Number(&seed) % uint64(n)) }
			m, want := of(t, most)
			keys := mixedRows(&seed, most+most/2+2)
			for step := range 400 + 2*most {
				key := keys[below(len(keys))]
				// In turn more comes than goes, and more goes than comes, so that the map is full, and empty, again and again.
				more := step/(2*most+20)%2 == 0
				call, n := below(8), step
				switch {
				case call == 0:
					is(t, m.Set(key, n), want.set(key, n), most, step, "Set", key)
				case call == 1:
					key = wrongRows()[below(len(wrongRows()))]
					is(t, calls(m, key, n), errArg, most, step, key)
				case call > 2 == more:
					is(t, m.Put(key, n), want.put(key, n), most, step, "Put", key)
				default:
					is(t, m.Drop(key), want.drop(key), most, step, "Drop", key)
				}
				holds(t, m, want, keys, most, step, call, key)
			}
		}
	}
}

// Promise 19.3, on all calls: each row of a few is put, or dropped if it is there, in whatever order. Each call is done to a copy.
func TestAllOrders(t *testing.T) {
	for most := 1; most <= 4; most++ {
		for round := range 8 {
			seed := uint64(most*100 + round)
			keys := mixedRows(&seed, 5)
			m, want := of(t, most)
			more(t, m, want, keys, 5)
		}
	}
}

func more(t *testing.T, m *exact.Map, want *model, keys []api.Vec, left int) {
	t.Helper()
	holds(t, m, want, keys)
	if left == 0 {
		return
	}
	for i, key := range keys {
		next, then := m.Copy(), want.copy()
		if _, there := want.get(key); there {
			is(t, next.Drop(key), then.drop(key), "Drop", key)
		} else {
			is(t, next.Put(key, i), then.put(key, i), "Put", key)
		}
		more(t, next, then, keys, left-1)
	}
}

// Promise 19.3: what was put is there till it is dropped, whichever goes first, out of a full map.
func TestDropInAllOrders(t *testing.T) {
	for round := range 60 {
		seed := uint64(round)
		keys := mixedRows(&seed, 5)
		m, want := of(t, 5, keys...)
		less(t, m, want, keys)
	}
}

func less(t *testing.T, m *exact.Map, want *model, keys []api.Vec) {
	t.Helper()
	holds(t, m, want, keys)
	for _, x := range want.things {
		next, then := m.Copy(), want.copy()
		is(t, next.Drop(x.Key), then.drop(x.Key), "Drop", x.Key)
		less(t, next, then, keys)
	}
}

// Promise 19.3: one row stays, however many others come and go.
func TestOthersComeAndGo(t *testing.T) {
	for _, most := range []int{2, 3, 10, 256} {
		m, want := of(t, most, row(20, 1000000))
		var keys []api.Vec
		for i := range 5000 {
			keys = append(keys, row(20, uint64(i*7)))
			is(t, m.Put(keys[len(keys)-1], i), api.OK, most, "Put", i)
			n, ok := m.Get(row(20, 1000000))
			is(t, []any{n, ok}, []any{0, true}, most, "Get", i)
			if len(keys) == most-1 {
				at := i * 5 % len(keys)
				is(t, m.Drop(keys[at]), api.OK, most, "Drop", i)
				keys = slices.Delete(keys, at, at+1)
			}
		}
		for _, key := range keys {
			is(t, m.Drop(key), api.OK, most, "Drop", key)
		}
		holds(t, m, want, keys, most)
	}
}
