package exact_test

import (
	"math"
	"slices"
	"testing"

	"shunter/api"
	"shunter/exact"
)

// turn writes over things, and over the room behind them, so that a test sees who shares them.
func turn(l []exact.Item) {
	l = l[:cap(l)]
	for i := range l {
		l[i] = exact.Item{Key: row(128, math.MaxUint64-uint64(i)), N: -77}
	}
}

// What is told is new memory, of maps of whatever many things.
func TestMemory(t *testing.T) {
	for n := range len(edges()) + 1 {
		for _, most := range []int{max(n, 1), n + 1, 256} {
			m, want := of(t, most, edges()[:n]...)
			first, second := m.List(), m.List()
			turn(first)
			is(t, slices.Equal(second, want.things), true, "another List behind the first one was turned", n)
			holds(t, m, want, edges(), "behind a List was turned", n)
			other := m.Copy()
			turn(other.List())
			holds(t, other, want, edges(), "a Copy behind its List was turned", n)
			holds(t, m, want, edges(), "a map behind its Copy's List was turned", n)
		}
	}
}

// Promise 19.2: a copy is the same, and from then on another one.
func TestCopy(t *testing.T) {
	for n := range len(edges()) + 1 {
		m, want := of(t, max(n, 1), edges()[:n]...)
		other, same := m.Copy(), want.copy()
		holds(t, other, same, edges(), "Copy", n)
		// Each one is changed with the other one looking on.
		for i, key := range edges()[:n] {
			is(t, []api.Errno{other.Set(key, i+500), same.set(key, i+500)}, []api.Errno{api.OK, api.OK}, "Set in a copy", key)
			holds(t, m, want, edges(), "Set in a copy", key)
			is(t, []api.Errno{m.Drop(key), want.drop(key)}, []api.Errno{api.OK, api.OK}, "Drop", key)
			holds(t, other, same, edges(), "Drop out of what was copied", key)
			is(t, []api.Errno{m.Put(row(99, 9), i), want.put(row(99, 9), i)}, []api.Errno{api.OK, api.OK}, "Put", key)
			holds(t, other, same, append(edges(), row(99, 9)), "Put into what was copied", key)
			is(t, []api.Errno{m.Drop(row(99, 9)), want.drop(row(99, 9))}, []api.Errno{api.OK, api.OK}, "Drop", key)
		}
		again := other.Copy().Copy()
		for _, key := range edges()[:n] {
			is(t, other.Drop(key), api.OK, "Drop out of a copy", key)
		}
		holds(t, again, same, edges(), "a copy of a copy", n)
		holds(t, other, &model{most: same.most}, edges(), "an emptied copy", n)
	}
}

// Two maps have nothing to do with one another.
func TestTwoMaps(t *testing.T) {
	one, want := of(t, 3, row(8, 1), row(8, 2))
	other, same := of(t, 3, row(8, 2), row(8, 3))
	is(t, []api.Errno{other.Drop(row(8, 2)), same.drop(row(8, 2))}, []api.Errno{api.OK, api.OK}, "Drop")
	holds(t, one, want, edges())
	holds(t, other, same, edges())
}
