package trie_test

import (
	"math"
	"slices"
	"testing"

	"shunter/api"
	"shunter/trie"
)

// turn writes over items, and over the room behind them, so that a test sees who shares them.
func turn(l []trie.Item) {
	l = l[:cap(l)]
	for i := range l {
		l[i] = trie.Item{Value: api.Vec{W: 128, Hi: uint64(i), Lo: math.MaxUint64}, Len: -3, N: -77}
	}
}

// fork are prefixes that begin with one another, and such as don't.
func fork() []string {
	return []string{"", "1", "10", "1011", "1010", "0", "0111", "011111111", "000000000000", "111111111111"}
}

// What is told is new memory, of tries of whatever many prefixes.
func TestMemory(t *testing.T) {
	for n := range len(fork()) + 1 {
		x, want := of(t, 12, 256, fork()[:n]...)
		rows := keys(12, fork())
		first, second := x.List(), x.List()
		turn(first)
		is(t, slices.Equal(second, want.list()), true, "another List behind the first one was turned", n)
		holds(t, x, want, rows, "behind a List was turned", n)
		other := x.Copy()
		turn(other.List())
		holds(t, other, want, rows, "a Copy behind its List was turned", n)
		holds(t, x, want, rows, "a trie behind its Copy's List was turned", n)
	}
}

// What was told stays as it is, whatever is called then.
func TestListStays(t *testing.T) {
	x, want := of(t, 12, 16, fork()...)
	l := x.List()
	for _, s := range fork() {
		v := prefix(12, s, '0')
		is(t, []api.Errno{x.Set(v, len(s), 99), x.Drop(v, len(s)), x.Put(v, len(s), 98)}, []api.Errno{api.OK, api.OK, api.OK}, "Set, Drop, Put", s)
	}
	is(t, slices.Equal(l, want.list()), true, "a List behind other calls")
}

// Promise 20.2: a copy is the same, and from then on another one.
func TestCopy(t *testing.T) {
	for n := range len(fork()) + 1 {
		rows, room := keys(12, fork()), max(n, 1)
		x, want := of(t, 12, room, fork()[:n]...)
		other, same := x.Copy(), want.copy()
		holds(t, other, same, rows, "Copy", n)
		is(t, other.Put(api.Vec{W: 13}, 1, 1), api.ErrWidth, "another width in a copy", n)
		// Each one is changed with the other one looking on.
		for i, s := range fork()[:n] {
			v := prefix(12, s, '0')
			is(t, other.Put(prefix(12, "01", '0'), 2, 1), api.ErrFull, "Put into a full copy", s)
			is(t, []api.Errno{other.Set(v, len(s), i+500), same.set(v, len(s), i+500)}, []api.Errno{api.OK, api.OK}, "Set in a copy", s)
			holds(t, x, want, rows, "Set in a copy", s)
			is(t, []api.Errno{x.Drop(v, len(s)), want.drop(v, len(s))}, []api.Errno{api.OK, api.OK}, "Drop", s)
			holds(t, other, same, rows, "Drop out of what was copied", s)
			beside := prefix(12, "01", '0')
			is(t, []api.Errno{x.Put(beside, 2, i), want.put(beside, 2, i)}, []api.Errno{api.OK, api.OK}, "Put", s)
			holds(t, other, same, rows, "Put into what was copied", s)
			is(t, []api.Errno{x.Drop(beside, 2), want.drop(beside, 2)}, []api.Errno{api.OK, api.OK}, "Drop", s)
		}
		again := other.Copy().Copy()
		for _, s := range fork()[:n] {
			is(t, other.Drop(prefix(12, s, '0'), len(s)), api.OK, "Drop out of a copy", s)
		}
		holds(t, again, same, rows, "a copy of a copy", n)
		holds(t, other, newModel(12, room), rows, "an emptied copy", n)
	}
}

// Two tries have nothing to do with one another.
func TestTwoTries(t *testing.T) {
	one, want := of(t, 8, 3, "1", "11")
	other, same := of(t, 8, 3, "11", "111")
	v := prefix(8, "11", '0')
	is(t, []api.Errno{other.Drop(v, 2), same.drop(v, 2)}, []api.Errno{api.OK, api.OK}, "Drop")
	holds(t, one, want, keys(8, []string{"1", "11", "111"}))
	holds(t, other, same, keys(8, []string{"1", "11", "111"}))
}
