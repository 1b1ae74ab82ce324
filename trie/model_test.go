package trie_test

import (
	"maps"
	"math"
	"reflect"
	"slices"
	"strings"
	"testing"

	"shunter/api"
	"shunter/ground"
	"shunter/trie"
)

// model is prefixes as texts of 0 and 1. It goes over all of them for whatever it is asked, and knows of no nodes. (The chapter's order is that of such texts.)
type model struct {
	w, most int
	numbers map[string]int
}

func newModel(w, most int) *model {
	return &model{w, most, map[string]int{}}
}

// text is a row's bits, the highest first.
func text(v api.Vec) string {
	var b strings.Builder
	for i := v.W - 1; i >= 0; i-- {
		part := v.Lo >> i
		if i >= 64 {
			part = v.Hi >> (i - 64)
		}
		b.WriteByte('0' + byte(part&1))
	}
	return b.String()
}

// prefix is the row of a width that begins with a text; behind it all bits are those of a rest.
func prefix(w int, s string, rest byte) api.Vec {
	v := api.Vec{W: w}
	for len(s) < w {
		s += string(rest)
	}
	for _, bit := range s {
		v.Hi, v.Lo = v.Hi<<1|v.Lo>>63, v.Lo<<1|uint64(bit-'0')
	}
	return v
}

// row tells whether a row is one of the model's width.
func (m *model) row(v api.Vec) bool {
	switch {
	case v.W != m.w:
		return false
	case v.W > 64:
		return v.Hi>>(v.W-64) == 0
	}
	return v.Hi == 0 && v.Lo>>v.W == 0
}

// fault is what is wrong with a prefix ahead of whether it is there.
func (m *model) fault(v api.Vec, long int) api.Errno {
	switch {
	case !m.row(v):
		return api.ErrWidth
	case long < 0 || long > m.w || strings.Contains(text(v)[long:], "1"):
		return api.ErrPrefix
	}
	return api.OK
}

func (m *model) there(v api.Vec, long int) (string, api.Errno) {
	if e := m.fault(v, long); e != api.OK {
		return "", e
	}
	s := text(v)[:long]
	if _, found := m.numbers[s]; !found {
		return s, api.ErrNone
	}
	return s, api.OK
}

func (m *model) put(v api.Vec, long, n int) api.Errno {
	s, e := m.there(v, long)
	switch {
	case e == api.OK:
		return api.ErrTwice
	case e != api.ErrNone:
		return e
	case len(m.numbers) == m.most:
		return api.ErrFull
	}
	m.numbers[s] = n
	return api.OK
}

func (m *model) set(v api.Vec, long, n int) api.Errno {
	s, e := m.there(v, long)
	if e == api.OK {
		m.numbers[s] = n
	}
	return e
}

func (m *model) drop(v api.Vec, long int) api.Errno {
	s, e := m.there(v, long)
	if e == api.OK {
		delete(m.numbers, s)
	}
	return e
}

func (m *model) get(key api.Vec) (int, int, bool) {
	if !m.row(key) {
		return 0, 0, false
	}
	best, found := "", false
	for s := range m.numbers {
		if strings.HasPrefix(text(key), s) && len(s) >= len(best) {
			best, found = s, true
		}
	}
	return m.numbers[best] * truth(found), len(best), found
}

func truth(b bool) int {
	if b {
		return 1
	}
	return 0
}

func (m *model) nodes() int {
	all := map[string]int{"": 0}
	for s := range m.numbers {
		for i := range len(s) + 1 {
			all[s[:i]]++
		}
	}
	return len(all)
}

func (m *model) list() []trie.Item {
	var l []trie.Item
	for _, s := range slices.Sorted(maps.Keys(m.numbers)) {
		l = append(l, trie.Item{Value: prefix(m.w, s, '0'), Len: len(s), N: m.numbers[s]})
	}
	return l
}

func (m *model) copy() *model {
	return &model{m.w, m.most, maps.Clone(m.numbers)}
}

// holds asks a trie for all that it can be asked for.
func holds(t *testing.T, x *trie.Trie, want *model, keys []api.Vec, what ...any) {
	t.Helper()
	if got, w := [2]int{x.Len(), x.Nodes()}, [2]int{len(want.numbers), want.nodes()}; got != w {
		t.Fatalf("%v: Len and Nodes = %v; want %v", what, got, w)
	}
	if l := x.List(); !slices.Equal(l, want.list()) {
		t.Fatalf("%v: List = %v; want %v", what, l, want.list())
	}
	for _, key := range keys {
		n, long, found := x.Get(key)
		if m, most, there := want.get(key); n != m || long != most || found != there {
			t.Fatalf("%v: Get(%v) = %d, %d, %v; want %d, %d, %v", what, key, n, long, found, m, most, there)
		}
	}
}

// near are rows that meet a prefix, or miss it by one bit alone: the last one that counts, or the first one.
func near(w int, s string) []api.Vec {
	l := []api.Vec{prefix(w, s, '0'), prefix(w, s, '1')}
	for i := range len(s) {
		if i < 2 || i >= len(s)-2 {
			turned := s[:i] + string('0'+'1'-s[i]) + s[i+1:]
			l = append(l, prefix(w, turned, '0'), prefix(w, turned, '1'))
		}
	}
	return l
}

// some are so many prefixes of a width, none twice; many of them begin alike.
func some(seed *uint64, w, count int) []string {
	below := func(n int) int { return int(ground.Number(seed) % uint64(n)) }
	var l []string
	for len(l) < count {
		v := api.Vec{W: w, Hi: ground.Number(seed), Lo: ground.Number(seed)}
		s := text(v)[:below(w+1)]
		if len(l) > 0 && below(4) > 0 {
			old := l[below(len(l))]
			at := below(len(old) + 1)
			s = old[:at] + s[min(at, len(s)):]
		}
		if !slices.Contains(l, s) {
			l = append(l, s)
		}
	}
	return l
}

// keys are rows near to prefixes.
func keys(w int, l []string) []api.Vec {
	var rows []api.Vec
	for _, s := range l {
		rows = append(rows, near(w, s)...)
	}
	return rows
}

// wrongRows may not be, or are of another width than w.
func wrongRows(w int) []api.Vec {
	l := []api.Vec{{}, {W: 8, Lo: 256}, {W: 63, Lo: 1 << 63}, {W: 64, Hi: 1}, {W: 65, Hi: 2}, {W: 127, Hi: 1 << 63}}
	for _, other := range []int{math.MinInt, math.MinInt32, -128, -w, -1, 0, 129, w - 1, w + 1, w + 64, w - 64, w + 256, math.MaxInt32, math.MaxInt} {
		l = append(l, api.Vec{W: other}, api.Vec{W: other, Lo: 1}, api.Vec{W: other, Hi: math.MaxUint64, Lo: math.MaxUint64})
	}
	switch {
	case w < 64:
		l = append(l, api.Vec{W: w, Lo: 1 << w}, api.Vec{W: w, Lo: math.MaxUint64}, api.Vec{W: w, Hi: 1}, api.Vec{W: w, Hi: 1 << 63})
	case w == 64:
		l = append(l, api.Vec{W: w, Hi: 1}, api.Vec{W: w, Hi: 1 << 63, Lo: 1})
	case w < 128:
		l = append(l, api.Vec{W: w, Hi: 1 << (w - 64)}, api.Vec{W: w, Hi: math.MaxUint64})
	}
	return l
}

// numbers are those that a prefix may have: any.
func numbers() []int {
	return []int{0, 1, -1, 7, 255, 256, math.MaxInt32, math.MinInt32, math.MaxInt, math.MinInt}
}

// of is a trie with some prefixes; the number of each is its place, and one.
func of(t *testing.T, w, most int, l ...string) (*trie.Trie, *model) {
	t.Helper()
	x, want := trie.New(w, most), newModel(w, most)
	for i, s := range l {
		v := prefix(w, s, '0')
		is(t, []api.Errno{x.Put(v, len(s), i+1), want.put(v, len(s), i+1)}, []api.Errno{api.OK, api.OK}, "Put", w, s)
	}
	return x, want
}

func is(t *testing.T, got, want any, what ...any) {
	t.Helper()
	if !reflect.DeepEqual(got, want) {
		t.Fatalf("%v = %v; want %v", what, got, want)
	}
}
