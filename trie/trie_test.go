package trie_test

import (
	"math"
	"slices"
	"strings"
	"testing"

	"shunter/api"
	"shunter/trie"
)

// got is what Get answers.
func got(x *trie.Trie, key api.Vec) []any {
	n, long, found := x.Get(key)
	return []any{n, long, found}
}

func TestExample(t *testing.T) {
	x := trie.New(8, 2)
	is(t, x.Put(api.Vec{W: 8, Lo: 0x80}, 1, 1), api.OK, "Put 8'80, 1")
	is(t, x.Put(api.Vec{W: 8, Lo: 0xc0}, 2, 2), api.OK, "Put 8'c0, 2")
	is(t, got(x, api.Vec{W: 8, Lo: 0xff}), []any{2, 2, true}, "Get 8'ff")
	is(t, got(x, api.Vec{W: 8, Lo: 0x81}), []any{1, 1, true}, "Get 8'81")
	is(t, got(x, api.Vec{W: 8, Lo: 1}), []any{0, 0, false}, "Get 8'1")
	is(t, []int{x.Len(), x.Nodes()}, []int{2, 3}, "Len and Nodes")
	is(t, x.List(), []trie.Item{{Value: api.Vec{W: 8, Lo: 0x80}, Len: 1, N: 1}, {Value: api.Vec{W: 8, Lo: 0xc0}, Len: 2, N: 2}}, "List")
}

// Promise 20.1: New.
func TestNew(t *testing.T) {
	least := []int{math.MinInt, math.MinInt + 1, math.MinInt32, -256, -128, -2, -1, 0}
	for _, w := range append(least, 129, 130, 256, 65536, math.MaxInt32, math.MaxInt) {
		for _, most := range []int{-1, 0, 1, 2, 256, 257} {
			is(t, trie.New(w, most) == nil, true, "New", w, most, "is nil")
		}
	}
	for _, most := range append(least, 257, 258, 512, 65536, math.MaxInt32, math.MaxInt32+1, math.MaxInt) {
		for _, w := range []int{1, 2, 64, 65, 127, 128} {
			is(t, trie.New(w, most) == nil, true, "New", w, most, "is nil")
		}
	}
	for w := 1; w <= 128; w++ {
		for _, most := range []int{1, 2, 3, 128, 255, 256} {
			is(t, trie.New(w, most) != nil, true, "New", w, most)
			holds(t, trie.New(w, most), newModel(w, most), append(wrongRows(w), near(w, strings.Repeat("1", w))...), "New", w, most)
		}
	}
}

// Promise 20.1: a trie takes as many prefixes as it may have, and not one more.
func TestFull(t *testing.T) {
	for most := 1; most <= 256; most++ {
		w, seed := 9+most%120, uint64(most)
		l := some(&seed, w, most+2)
		x, want := of(t, w, most, l[:most]...)
		for _, s := range l[most:] {
			v := prefix(w, s, '0')
			is(t, x.Put(v, len(s), 1), api.ErrFull, "Put into a full trie", most)
			is(t, x.Set(v, len(s), 1), api.ErrNone, "Set in a full trie", most)
			is(t, x.Drop(v, len(s)), api.ErrNone, "Drop out of a full trie", most)
		}
		holds(t, x, want, keys(w, l[most-1:]), most)
		v := prefix(w, l[0], '0')
		is(t, x.Put(v, len(l[0]), 1), api.ErrTwice, "Put what is there into a full trie", most)
		is(t, []api.Errno{x.Drop(v, len(l[0])), want.drop(v, len(l[0]))}, []api.Errno{api.OK, api.OK}, "Drop", most)
		other := prefix(w, l[most], '0')
		is(t, []api.Errno{x.Put(other, len(l[most]), -5), want.put(other, len(l[most]), -5)}, []api.Errno{api.OK, api.OK}, "Put behind a Drop", most)
		is(t, x.Put(v, len(l[0]), 1), api.ErrFull, "Put what was dropped", most)
		holds(t, x, want, keys(w, append(l[:1], l[most-1:]...)), "behind", most)
	}
}

// calls are Put, Set and Drop of a prefix.
func calls(x *trie.Trie, v api.Vec, long, n int) [3]api.Errno {
	return [3]api.Errno{x.Put(v, long, n), x.Set(v, long, n), x.Drop(v, long)}
}

func all(e api.Errno) [3]api.Errno {
	return [3]api.Errno{e, e, e}
}

// Promises 20.1 and 20.2: of a nil trie.
func TestNil(t *testing.T) {
	var x *trie.Trie
	for _, v := range append(wrongRows(8), near(8, "101")...) {
		for _, long := range []int{math.MinInt, -1, 0, 3, 8, 9, math.MaxInt} {
			is(t, calls(x, v, long, 3), all(api.ErrArg), v, long)
		}
		is(t, got(x, v), []any{0, 0, false}, "Get", v)
	}
	is(t, []int{x.Len(), x.Nodes(), len(x.List())}, []int{0, 0, 0}, "Len, Nodes, List")
	is(t, x.Copy() == nil, true, "Copy is nil")
}

// wrongLens are no lengths of a width.
func wrongLens(w int) []int {
	return []int{math.MinInt, math.MinInt + 1, math.MinInt32, -w, -2, -1, w + 1, w + 2, w + 64, 129 + w, 256 + w, math.MaxInt32, math.MaxInt}
}

// Promise 20.1: rows of another width, and such as may not be, are refused ahead of all but a nil trie, and nothing is changed. None of them is got.
func TestWrongRows(t *testing.T) {
	for w := 1; w <= 128; w++ {
		l := []string{"", strings.Repeat("1", w), strings.Repeat("0", w), strings.Repeat("1", (w+1)/2)}[:min(w+1, 4)]
		x, want := of(t, w, len(l), l...)
		for _, v := range wrongRows(w) {
			for _, long := range append(wrongLens(w), 0, 1, w) {
				is(t, calls(x, v, long, 3), all(api.ErrWidth), w, v, long)
			}
			is(t, got(x, v), []any{0, 0, false}, w, "Get", v)
		}
		holds(t, x, want, keys(w, l), w)
	}
}

// Promise 20.1: lengths that are none, and bits behind a prefix, are refused ahead of what is there, and of a trie that is full.
func TestWrongPrefixes(t *testing.T) {
	for _, w := range []int{1, 2, 3, 8, 63, 64, 65, 100, 127, 128} {
		ones := strings.Repeat("1", w)
		x, want := of(t, w, 2, "", ones)
		for _, long := range wrongLens(w) {
			is(t, calls(x, prefix(w, ones, '0'), long, 3), all(api.ErrPrefix), w, long)
			is(t, calls(x, prefix(w, "", '0'), long, 3), all(api.ErrPrefix), w, long)
		}
		for long := range w {
			for behind := long; behind < w; behind++ {
				v := prefix(w, strings.Repeat("0", behind)+"1", '0')
				is(t, calls(x, v, long, 3), all(api.ErrPrefix), w, long, behind)
				v = prefix(w, ones[:long]+strings.Repeat("0", behind-long)+"1", '0')
				is(t, calls(x, v, long, 3), all(api.ErrPrefix), w, long, behind)
			}
			is(t, calls(x, prefix(w, ones, '0'), long, 3), all(api.ErrPrefix), w, long)
		}
		holds(t, x, want, keys(w, []string{"", ones}), w)
	}
}

// Promise 20.1: of two faults the first one.
func TestOrderOfFaults(t *testing.T) {
	x, want := of(t, 8, 2, "1", "11")
	is(t, x.Put(api.Vec{W: 9, Lo: 1}, 10, 1), api.ErrWidth, "another width, no length, and no room")
	is(t, x.Put(api.Vec{W: 8, Lo: 0x180}, 1, 1), api.ErrWidth, "no row, and a bit behind")
	is(t, x.Put(api.Vec{W: 8, Lo: 0x41}, 2, 1), api.ErrPrefix, "a bit behind, and no room")
	is(t, x.Put(api.Vec{W: 8, Lo: 0xc0}, 1, 1), api.ErrPrefix, "a bit behind what is there")
	is(t, x.Put(api.Vec{W: 8, Lo: 0xc0}, 2, 1), api.ErrTwice, "there, and no room")
	is(t, x.Put(api.Vec{W: 8, Lo: 0xc0}, 3, 1), api.ErrFull, "no room")
	is(t, x.Set(api.Vec{W: 8, Lo: 0x1}, 3, 1), api.ErrPrefix, "a bit behind, and not there")
	is(t, x.Drop(api.Vec{W: 8, Lo: 0x1}, 3), api.ErrPrefix, "a bit behind, and not there")
	is(t, x.Set(api.Vec{W: 7, Lo: 0x1}, 3, 1), api.ErrWidth, "another width, a bit behind, and not there")
	is(t, x.Drop(api.Vec{W: 7, Lo: 0x1}, 3), api.ErrWidth, "another width, a bit behind, and not there")
	holds(t, x, want, keys(8, []string{"1", "11"}))
}

// Promise 20.1: what Put, Set and Drop do, and what they refuse: of the prefixes of each width and length.
func TestOnePrefix(t *testing.T) {
	for w := 1; w <= 128; w++ {
		for long := 0; long <= w; long++ {
			seed := uint64(w*200 + long)
			s := strings.Repeat("01", w)[(w+long)%2:][:long]
			rows := append(near(w, s), keys(w, some(&seed, w, 1))...)
			v, n := prefix(w, s, '0'), numbers()[(w+long)%len(numbers())]
			x, want := of(t, w, 2)
			is(t, calls(x, v, long, n), all(api.OK), "Put, Set, Drop", w, s)
			is(t, []api.Errno{x.Set(v, long, n), x.Drop(v, long)}, []api.Errno{api.ErrNone, api.ErrNone}, "Set and Drop what isn't there", w, s)
			holds(t, x, want, rows, w, s)
			is(t, []api.Errno{x.Put(v, long, n), want.put(v, long, n)}, []api.Errno{api.OK, api.OK}, "Put", w, s)
			holds(t, x, want, rows, "Put", w, s)
			is(t, x.Put(v, long, n+1), api.ErrTwice, "Put twice", w, s)
			holds(t, x, want, rows, "Put twice", w, s)
			is(t, []api.Errno{x.Set(v, long, n-1), want.set(v, long, n-1)}, []api.Errno{api.OK, api.OK}, "Set", w, s)
			holds(t, x, want, rows, "Set", w, s)
			is(t, []api.Errno{x.Drop(v, long), want.drop(v, long)}, []api.Errno{api.OK, api.OK}, "Drop", w, s)
			holds(t, x, want, rows, "Drop", w, s)
		}
	}
}

// Promise 20.1: a beginning of a prefix, and what goes on from one, isn't there for that; and each number may be had.
func TestBeginnings(t *testing.T) {
	x, want := of(t, 8, 4, "1010")
	for _, s := range []string{"", "1", "10", "101", "10100", "10101", "10100000", "0", "1011"} {
		v := prefix(8, s, '0')
		is(t, []api.Errno{x.Set(v, len(s), 9), x.Drop(v, len(s))}, []api.Errno{api.ErrNone, api.ErrNone}, "Set and Drop", s)
		holds(t, x, want, keys(8, []string{s, "1010"}), s)
	}
	for _, n := range numbers() {
		x, _ := of(t, 8, 4)
		is(t, x.Put(prefix(8, "1", '0'), 1, n), api.OK, "Put", n)
		is(t, got(x, prefix(8, "1", '0')), []any{n, 1, true}, "Get", n)
		is(t, x.List()[0].N, n, "List", n)
	}
}

// Promise 20.2: the longest one of prefixes that begin with one another, of each width.
func TestLongest(t *testing.T) {
	for w := 1; w <= 128; w++ {
		for step := 1; step <= 3; step++ {
			seed, l := uint64(w), []string{}
			whole := text(api.Vec{W: w, Hi: 0x9e3779b97f4a7c15 * uint64(step), Lo: 0xbf58476d1ce4e5b9})
			for long := step % 2; long <= w; long += step {
				l = append(l, whole[:long])
			}
			x, want := of(t, w, len(l), l...)
			rows := append(keys(w, l[len(l)-1:]), keys(w, some(&seed, w, 2))...)
			for i := range w {
				rows = append(rows, prefix(w, whole[:i]+string('0'+'1'-whole[i]), whole[i]))
			}
			holds(t, x, want, rows, w, step)
			is(t, x.Nodes(), len(l[len(l)-1])+1, "Nodes", w, step)
		}
	}
}

// Promise 20.2: how many beginnings, and in which order.
func TestNodesAndList(t *testing.T) {
	l := []string{"", "0", "00", "001", "01", "1", "10", "1011", "11"}
	for i := range l {
		for _, order := range [][]string{slices.Concat(l[i:], l[:i]), slices.Concat(reversed(l[:i]), reversed(l[i:]))} {
			x, _ := of(t, 4, 16, order...)
			var names []string
			for _, item := range x.List() {
				names = append(names, text(item.Value)[:item.Len])
			}
			is(t, names, l, "List", order)
			is(t, x.Nodes(), 10, "Nodes", order)
		}
	}
	one, _ := of(t, 128, 1, strings.Repeat("1", 128))
	is(t, one.Nodes(), 129, "Nodes of one prefix of 128 bits")
	empty, _ := of(t, 128, 1, "")
	is(t, empty.Nodes(), 1, "Nodes of the empty prefix")
	is(t, trie.New(1, 1).Nodes(), 1, "Nodes of no prefix")
}

func reversed(l []string) []string {
	l = slices.Clone(l)
	slices.Reverse(l)
	return l
}
