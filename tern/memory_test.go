package tern_test

import (
	"math"
	"slices"
	"testing"

	"shunter/api"
	"shunter/tern"
)

// turn writes over rules, and over the room behind them, so that a test sees who shares them.
func turn(l []tern.Item) {
	l = l[:cap(l)]
	for i := range l {
		l[i] = tern.Item{Value: api.Vec{W: 128, Hi: uint64(i)}, Mask: api.Vec{W: 128, Hi: math.MaxUint64}, Prio: -3, N: -77}
	}
}

// fork are rules that are met together, and such as aren't.
func fork() []rule {
	return []rule{{"1...", 3, 0}, {"....", 9, 0}, {"10..", 3, 0}, {"0.1.", 0, 0}, {"1...", 4, 0}, {"1111", 65535, 0}, {"..11", 3, 0}, {"0000", 1, 0}, {"...0", 1, 0}}
}

func rows() []api.Vec {
	_, rows := all(4)
	return rows
}

// What is told is new memory, of lists of whatever many rules.
func TestMemory(t *testing.T) {
	for n := range len(fork()) + 1 {
		x, want := of(t, 4, 256, fork()[:n]...)
		first, second := x.List(), x.List()
		turn(first)
		is(t, slices.Equal(second, want.list()), true, "another List behind the first one was turned", n)
		holds(t, x, want, rows(), "behind a List was turned", n)
		other := x.Copy()
		turn(other.List())
		holds(t, other, want, rows(), "a Copy behind its List was turned", n)
		holds(t, x, want, rows(), "a list behind its Copy's List was turned", n)
	}
}

// What was told stays as it is, whatever is called then.
func TestListStays(t *testing.T) {
	x, want := of(t, 4, 16, fork()...)
	l := x.List()
	for _, r := range fork() {
		is(t, []api.Errno{x.Set(item(r.s, r.prio, 99)), x.Drop(item(r.s, r.prio, 0)), x.Put(item(r.s, r.prio, 98))}, []api.Errno{api.OK, api.OK, api.OK}, "Set, Drop, Put", r)
	}
	is(t, slices.Equal(l, want.list()), true, "a List behind other calls")
}

// Promise 21.2: a copy is the same, and from then on another one.
func TestCopy(t *testing.T) {
	for n := range len(fork()) + 1 {
		room := max(n, 1)
		x, want := of(t, 4, room, fork()[:n]...)
		other, same := x.Copy(), want.copy()
		holds(t, other, same, rows(), "Copy", n)
		is(t, other.Put(item(".....", 1, 1)), api.ErrWidth, "another width in a copy", n)
		// Each one is changed with the other one looking on.
		for i, r := range fork()[:n] {
			y, beside := item(r.s, r.prio, 0), item("...1", 2, i)
			is(t, other.Put(beside), api.ErrFull, "Put into a full copy", r)
			set(t, other, same, item(r.s, r.prio, i+500))
			holds(t, x, want, rows(), "Set in a copy", r)
			drop(t, x, want, y)
			holds(t, other, same, rows(), "Drop out of what was copied", r)
			put(t, x, want, beside)
			holds(t, other, same, rows(), "Put into what was copied", r)
			drop(t, x, want, beside)
		}
		again := other.Copy().Copy()
		for _, r := range fork()[:n] {
			is(t, other.Drop(item(r.s, r.prio, 0)), api.OK, "Drop out of a copy", r)
		}
		holds(t, again, same, rows(), "a copy of a copy", n)
		holds(t, other, newModel(4, room), rows(), "an emptied copy", n)
	}
}

// Two lists, with room behind their rules, have nothing to do with one another, though one is the other's copy.
func TestTwoLists(t *testing.T) {
	one, want := of(t, 4, 9, fork()[:5]...)
	drop(t, one, want, item("1...", 4, 0))
	other, same := one.Copy(), want.copy()
	put(t, one, want, item("0000", 65535, 1))
	put(t, other, same, item("1111", 65535, 2))
	holds(t, one, want, rows())
	holds(t, other, same, rows())
}
