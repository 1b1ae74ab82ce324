package exact_test

import (
	"math"
	"slices"
	"testing"

	"shunter/api"
	"shunter/exact"
	"shunter/ground"
)

func TestExample(t *testing.T) {
	m := exact.New(1)
	is(t, m.Put(row(8, 5), 7), api.OK, "Put 8'5")
	is(t, m.Put(row(8, 6), 8), api.ErrFull, "Put 8'6")
	n, ok := m.Get(row(8, 5))
	is(t, []any{n, ok}, []any{7, true}, "Get 8'5")
}

// Promise 19.1: New.
func TestNew(t *testing.T) {
	for _, most := range []int{math.MinInt, math.MinInt + 1, math.MinInt32, -256, -2, -1, 0, 257, 258, 512, 65536, math.MaxInt32, math.MaxInt32 + 1, math.MaxInt/2 + 1, math.MaxInt - 1, math.MaxInt} {
		is(t, exact.New(most) == nil, true, "New", most, "is nil")
	}
	for most := 1; most <= 256; most++ {
		m := exact.New(most)
		is(t, m != nil, true, "New", most)
		holds(t, m, &model{most: most}, append(edges(), wrongRows()...), "New", most)
	}
}

// Promise 19.1: a map of each size takes as many things as it may have, and not one more.
func TestFull(t *testing.T) {
	for most := 1; most <= 256; most++ {
		seed := uint64(most)
		keys := mixedRows(&seed, most+3)
		m, want := of(t, most, keys[:most]...)
		is(t, m.Room(), 0, "Room", most)
		for _, key := range keys[most:] {
			is(t, m.Put(key, 1), api.ErrFull, "Put into a full map", most)
			is(t, m.Set(key, 1), api.ErrNone, "Set in a full map", most)
			is(t, m.Drop(key), api.ErrNone, "Drop out of a full map", most)
		}
		holds(t, m, want, keys, most)
		is(t, []api.Errno{m.Drop(keys[0]), want.drop(keys[0])}, []api.Errno{api.OK, api.OK}, "Drop", most)
		is(t, m.Room(), 1, "Room behind a Drop", most)
		is(t, []api.Errno{m.Put(keys[most], -5), want.put(keys[most], -5)}, []api.Errno{api.OK, api.OK}, "Put behind a Drop", most)
		is(t, m.Put(keys[0], 1), api.ErrFull, "Put what was dropped", most)
		holds(t, m, want, keys, most)
	}
}

// calls are Put, Set and Drop of a row.
func calls(m *exact.Map, key api.Vec, n int) [3]api.Errno {
	return [3]api.Errno{m.Put(key, n), m.Set(key, n), m.Drop(key)}
}

var errArg = [3]api.Errno{api.ErrArg, api.ErrArg, api.ErrArg}

// Promise 19.1: rows that may not be are refused ahead of all else, and nothing is changed.
func TestWrongRows(t *testing.T) {
	for _, keys := range [][]api.Vec{nil, {row(8, 5)}, {row(8, 5), row(8, 0), row(64, 0)}, {row(8, 0), row(8, 5), row(1, 0), ones(128)}} {
		// The last one is full.
		m, want := of(t, 4, keys...)
		for _, key := range wrongRows() {
			is(t, calls(m, key, 3), errArg, key)
			holds(t, m, want, append(wrongRows(), edges()...), "behind", key)
		}
	}
}

// Promises 19.1 and 19.2: of a nil map.
func TestNil(t *testing.T) {
	var m *exact.Map
	for _, key := range append(edges(), wrongRows()...) {
		is(t, calls(m, key, 3), errArg, key)
		n, ok := m.Get(key)
		is(t, []any{n, ok}, []any{0, false}, "Get", key)
	}
	is(t, []int{m.Len(), m.Room(), len(m.List())}, []int{0, 0, 0}, "Len, Room, List")
	is(t, m.Copy() == nil, true, "Copy is nil")
}

// Promise 19.1: of two faults the first one.
func TestOrderOfFaults(t *testing.T) {
	m, want := of(t, 2, row(8, 5), row(8, 6))
	is(t, m.Put(row(8, 256), 1), api.ErrArg, "no row, and no room")
	is(t, m.Put(row(8, 6), 1), api.ErrTwice, "there, and no room")
	is(t, m.Put(row(8, 7), 1), api.ErrFull, "no room")
	is(t, m.Set(row(8, 256), 1), api.ErrArg, "no row, and not there")
	is(t, m.Drop(row(8, 256)), api.ErrArg, "no row, and not there")
	holds(t, m, want, edges())
}

// Promise 19.1: what Put, Set and Drop do, and what they refuse.
func TestOneRow(t *testing.T) {
	for _, key := range edges() {
		m, want := of(t, 2)
		for _, n := range numbers() {
			is(t, calls(m, key, n), [3]api.Errno{api.OK, api.OK, api.OK}, "Put, Set, Drop", key)
			is(t, []api.Errno{m.Set(key, n), m.Drop(key)}, []api.Errno{api.ErrNone, api.ErrNone}, "Set and Drop what isn't there", key)
			holds(t, m, want, edges(), key)
			is(t, []api.Errno{m.Put(key, n), want.put(key, n)}, []api.Errno{api.OK, api.OK}, "Put", key)
			holds(t, m, want, edges(), "Put", key, n)
			is(t, m.Put(key, n+1), api.ErrTwice, "Put twice", key)
			holds(t, m, want, edges(), "Put twice", key, n)
			is(t, []api.Errno{m.Set(key, n-1), want.set(key, n-1)}, []api.Errno{api.OK, api.OK}, "Set", key)
			holds(t, m, want, edges(), "Set", key, n)
			is(t, []api.Errno{m.Drop(key), want.drop(key)}, []api.Errno{api.OK, api.OK}, "Drop", key)
			holds(t, m, want, edges(), "Drop", key, n)
		}
	}
}

// Promise 19.1: rows that differ in their width, or in one bit, are two.
func TestRowsNearToOneAnother(t *testing.T) {
	var widths, low, high []api.Vec
	for w := 1; w <= 128; w++ {
		widths = append(widths, row(w, 0), row(w, 1))
	}
	for i := range 64 {
		low = append(low, api.Vec{W: 128, Lo: 1 << i}, api.Vec{W: 64, Lo: 1 << i})
		high = append(high, api.Vec{W: 128, Hi: 1 << i}, api.Vec{W: 128, Hi: 1 << i, Lo: 1 << i})
	}
	for i, keys := range [][]api.Vec{edges(), widths, low, high} {
		for some := range 4 {
			all := slices.Concat(keys, low, edges())
			var in []api.Vec
			for j, key := range keys {
				if some == 3 || j%3 == some {
					in = append(in, key)
				}
			}
			m, want := of(t, len(in), in...)
			is(t, m.Len(), len(in), "Len", i, some)
			holds(t, m, want, all, i, some)
			for _, key := range in {
				is(t, []api.Errno{m.Drop(key), want.drop(key)}, []api.Errno{api.OK, api.OK}, "Drop", key)
				holds(t, m, want, all, i, some, "Drop", key)
			}
		}
	}
}

// Promise 19.2: the order of rows is by widths and numbers, in whatever order they were put.
func TestOrder(t *testing.T) {
	m, _ := of(t, 256)
	for i, key := range slices.Backward(edges()) {
		is(t, m.Put(key, i), api.OK, "Put", key)
	}
	for i, x := range m.List() {
		is(t, x, exact.Item{Key: edges()[i], N: i}, "the thing", i)
	}
	seed := uint64(1)
	keys := mixedRows(&seed, 256)
	want, _ := of(t, 256, keys...)
	for range 50 {
		other := exact.New(256)
		for len(keys) > 0 {
			i := int(ground.Number(&seed) % uint64(len(keys)))
			n, _ := want.Get(keys[i])
			is(t, other.Put(keys[i], n), api.OK, "Put", keys[i])
			keys = slices.Delete(keys, i, i+1)
		}
		is(t, other.List(), want.List(), "List")
		for _, x := range want.List() {
			keys = append(keys, x.Key)
		}
	}
}
