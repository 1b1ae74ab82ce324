package exact_test

import (
	"math"
	"reflect"
	"slices"
	"testing"

	"shunter/api"
	"shunter/exact"
	"shunter/ground"
	"shunter/vec"
)

// model is things in order. It goes over all of them for whatever it is asked, and knows of no slots.
type model struct {
	things []exact.Item
	most   int
}

// below is the chapter's order of rows.
func below(a, b api.Vec) bool {
	if a.W != b.W {
		return a.W < b.W
	}
	if a.Hi != b.Hi {
		return a.Hi < b.Hi
	}
	return a.Lo < b.Lo
}

func (m *model) place(key api.Vec) (int, bool) {
	for i, x := range m.things {
		if !below(x.Key, key) {
			return i, x.Key == key
		}
	}
	return len(m.things), false
}

func (m *model) put(key api.Vec, n int) api.Errno {
	i, found := m.place(key)
	switch {
	case !vec.May(key):
		return api.ErrArg
	case found:
		return api.ErrTwice
	case len(m.things) == m.most:
		return api.ErrFull
	}
	m.things = slices.Insert(m.things, i, exact.Item{Key: key, N: n})
	return api.OK
}

// there is the place of what Set and Drop ask for.
func (m *model) there(key api.Vec) (int, api.Errno) {
	i, found := m.place(key)
	switch {
	case !vec.May(key):
		return i, api.ErrArg
	case !found:
		return i, api.ErrNone
	}
	return i, api.OK
}

func (m *model) set(key api.Vec, n int) api.Errno {
	i, e := m.there(key)
	if e == api.OK {
		m.things[i].N = n
	}
	return e
}

func (m *model) drop(key api.Vec) api.Errno {
	i, e := m.there(key)
	if e == api.OK {
		m.things = slices.Delete(m.things, i, i+1)
	}
	return e
}

func (m *model) get(key api.Vec) (int, bool) {
	if i, found := m.place(key); found {
		return m.things[i].N, true
	}
	return 0, false
}

func (m *model) copy() *model {
	return &model{slices.Clone(m.things), m.most}
}

// holds asks a map for all that it can be asked for.
func holds(t *testing.T, m *exact.Map, want *model, keys []api.Vec, what ...any) {
	t.Helper()
	is(t, [2]int{m.Len(), m.Room()}, [2]int{len(want.things), want.most - len(want.things)}, append(what, "Len and Room")...)
	if l := m.List(); !slices.Equal(l, want.things) {
		t.Fatalf("%v: List = %v; want %v", what, l, want.things)
	}
	for _, key := range keys {
		got, found := m.Get(key)
		if n, there := want.get(key); got != n || found != there {
			t.Fatalf("%v: Get(%v) = %d, %v; want %d, %v", what, key, got, found, n, there)
		}
	}
}

// Rows.

func row(w int, lo uint64) api.Vec { return api.Vec{W: w, Lo: lo} }

// ones has all bits of its width.
func ones(w int) api.Vec {
	v, _ := vec.Prefix(w, w)
	return v
}

// edges are rows that lie near to one another, in the chapter's order.
func edges() []api.Vec {
	return []api.Vec{
		row(1, 0), row(1, 1), row(2, 0), row(2, 1), row(2, 3), row(8, 0), row(8, 1), row(8, 255), row(9, 0), row(9, 255), row(9, 256),
		row(63, 1), row(63, math.MaxInt64), row(64, 0), row(64, 1), row(64, math.MaxInt64), row(64, 1<<63), row(64, math.MaxUint64),
		row(65, 0), row(65, 1), row(65, math.MaxUint64), {W: 65, Hi: 1}, {W: 65, Hi: 1, Lo: 1}, ones(65),
		row(127, 0), {W: 127, Hi: 1 << 62}, ones(127), row(128, 0), row(128, 1), row(128, 1<<63), row(128, math.MaxUint64),
		{W: 128, Hi: 1}, {W: 128, Hi: 1, Lo: 1}, {W: 128, Hi: 2}, {W: 128, Hi: 2, Lo: 1}, {W: 128, Hi: 1 << 63}, {W: 128, Hi: 1 << 63, Lo: 1 << 63}, {W: 128, Hi: math.MaxUint64}, ones(128),
	}
}

// wrongRows may not be; the first of them is no row at all.
func wrongRows() []api.Vec {
	l := []api.Vec{{}, row(1, 2), row(8, 256), row(8, math.MaxUint64), {W: 8, Hi: 1}, {W: 8, Hi: 1, Lo: 5}, {W: 63, Lo: 1 << 63}, {W: 64, Hi: 1}, {W: 65, Hi: 2}, {W: 127, Hi: 1 << 63}}
	for _, w := range []int{math.MinInt, math.MinInt + 1, math.MinInt32, -128, -8, -1, 0, 129, 256, math.MaxInt32, math.MaxInt} {
		l = append(l, row(w, 0), row(w, 5), api.Vec{W: w, Hi: 1}, api.Vec{W: w, Hi: math.MaxUint64, Lo: math.MaxUint64})
	}
	return l
}

// mixedRows are so many rows of mixed widths and numbers, none twice; some differ in their width, or a bit, alone.
func mixedRows(seed *uint64, count int) []api.Vec {
	var l []api.Vec
	for len(l) < count {
		v := ones(1 + int(ground.Number(seed)%128))
		v.Hi &= ground.Number(seed)
		v.Lo &= ground.Number(seed)
		wider, _ := vec.Cast(v, min(v.W+1, 128))
		other := v
		other.Lo ^= 1
		for _, x := range []api.Vec{v, wider, other, row(16, v.Lo%512)} {
			if !slices.Contains(l, x) {
				l = append(l, x)
			}
		}
	}
	return l[:count]
}

// numbers are those that a thing may have: any.
func numbers() []int {
	return []int{0, 1, -1, 7, 255, 256, math.MaxInt32, math.MinInt32, math.MaxInt, math.MinInt}
}

// of is a map of so many things at most, with some rows; the number of each is its place.
func of(t *testing.T, most int, keys ...api.Vec) (*exact.Map, *model) {
	t.Helper()
	m, want := exact.New(most), &model{most: most}
	for i, key := range keys {
		is(t, m.Put(key, i), want.put(key, i), "Put", key)
	}
	return m, want
}

func is(t *testing.T, got, want any, what ...any) {
	t.Helper()
	if !reflect.DeepEqual(got, want) {
		t.Fatalf("%v = %v; want %v", what, got, want)
	}
}
