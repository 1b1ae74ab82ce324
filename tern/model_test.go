package tern_test

import (
	"math"
	"reflect"
	"slices"
	"strings"
	"testing"

	"shunter/api"
	"shunter/ground"
	"shunter/tern"
)

// rule is a value and a mask as a text: 0 and 1 where the mask has a bit, a full stop where it has none.
type rule struct {
	s       string
	prio, n int
}

// model is rules as they were put. It goes over all of them for whatever it is asked, and knows of no order but that.
type model struct {
	w, most int
	rules   []rule
}

func newModel(w, most int) *model {
	return &model{w: w, most: most}
}

// text is a row's bits, the highest first.
func text(v api.Vec) string {
	var b strings.Builder
	for i := v.W - 1; i >= 0; i-- {
		part := v.Lo >> i
		if i >= 64 {
			part = v.Hi >> (i - 64)
		}
		b.WriteByte('0' + byte(part&1))
	}
	return b.String()
}

// row has the bits of a text; each of its full stops is the rest.
func row(s string, rest byte) api.Vec {
	v := api.Vec{W: len(s)}
	for i := range len(s) {
		c := s[i]
		if c == '.' {
			c = rest
		}
		v.Hi, v.Lo = v.Hi<<1|v.Lo>>63, v.Lo<<1|uint64(c-'0')
	}
	return v
}

// mask has a bit where a text has 0 or 1.
func mask(s string) api.Vec {
	return row(strings.ReplaceAll(s, "0", "1"), '0')
}

// item is the rule that a text tells.
func item(s string, prio, n int) tern.Item {
	return tern.Item{Value: row(s, '0'), Mask: mask(s), Prio: prio, N: n}
}

// fits tells whether a row is one of the model's width.
func (m *model) fits(v api.Vec) bool {
	switch {
	case v.W != m.w:
		return false
	case v.W > 64:
		return v.Hi>>(v.W-64) == 0
	}
	return v.Hi == 0 && v.Lo>>v.W == 0
}

// place is where a rule lies, and what is wrong with asking for it.
func (m *model) place(x tern.Item) (int, rule, api.Errno) {
	if !m.fits(x.Value) || !m.fits(x.Mask) {
		return 0, rule{}, api.ErrWidth
	}
	y, s := rule{prio: x.Prio, n: x.N}, []byte(text(x.Value))
	for i, c := range text(x.Mask) {
		if c == '0' && s[i] == '1' {
			return 0, rule{}, api.ErrMask
		}
		if c == '0' {
			s[i] = '.'
		}
	}
	if x.Prio < 0 || x.Prio > 65535 {
		return 0, rule{}, api.ErrRange
	}
	y.s = string(s)
	for i, other := range m.rules {
		if other.s == y.s && other.prio == y.prio {
			return i, y, api.OK
		}
	}
	return 0, y, api.ErrNone
}

func (m *model) put(x tern.Item) api.Errno {
	_, y, e := m.place(x)
	switch {
	case e == api.OK:
		return api.ErrTwice
	case e != api.ErrNone:
		return e
	case len(m.rules) == m.most:
		return api.ErrFull
	}
	m.rules = append(m.rules, y)
	return api.OK
}

func (m *model) set(x tern.Item) api.Errno {
	i, y, e := m.place(x)
	if e == api.OK {
		m.rules[i].n = y.n
	}
	return e
}

func (m *model) drop(x tern.Item) api.Errno {
	i, _, e := m.place(x)
	if e == api.OK {
		m.rules = slices.Delete(m.rules, i, i+1)
	}
	return e
}

// met tells whether a row of bits meets a text.
func met(key, s string) bool {
	for i := range len(s) {
		if s[i] != '.' && s[i] != key[i] {
			return false
		}
	}
	return len(key) == len(s)
}

func (m *model) get(key api.Vec) (int, int, bool) {
	if !m.fits(key) {
		return 0, 0, false
	}
	best, found, s := rule{}, false, text(key)
	for _, x := range m.rules {
		if met(s, x.s) && (!found || x.prio < best.prio) {
			best, found = x, true
		}
	}
	return best.n, best.prio, found
}

// list takes out one after the other what is first among those that are left.
func (m *model) list() []tern.Item {
	var l []tern.Item
	left := slices.Clone(m.rules)
	for len(left) > 0 {
		first := 0
		for i, x := range left {
			if x.prio < left[first].prio {
				first = i
			}
		}
		l = append(l, item(left[first].s, left[first].prio, left[first].n))
		left = slices.Delete(left, first, first+1)
	}
	return l
}

func (m *model) copy() *model {
	return &model{m.w, m.most, slices.Clone(m.rules)}
}

// holds asks a list for all that it can be asked for.
func holds(t *testing.T, x *tern.List, want *model, keys []api.Vec, what ...any) {
	t.Helper()
	if x.Len() != len(want.rules) {
		t.Fatalf("%v: Len = %v; want %v", what, x.Len(), len(want.rules))
	}
	if l := x.List(); !slices.Equal(l, want.list()) {
		t.Fatalf("%v: List = %v; want %v", what, l, want.list())
	}
	for _, key := range keys {
		n, prio, found := x.Get(key)
		if m, least, there := want.get(key); n != m || prio != least || found != there {
			t.Fatalf("%v: Get(%v) = %d, %d, %v; want %d, %d, %v", what, key, n, prio, found, m, least, there)
		}
	}
}

// near are rows that meet a text, or miss it by one bit alone.
func near(s string) []api.Vec {
	l := []api.Vec{row(s, '0'), row(s, '1')}
	for i, c := range s {
		if c != '.' && (i < 2 || i >= len(s)-2 || i%31 == 0) {
			turned := s[:i] + string('0'+'1'-c) + s[i+1:]
			l = append(l, row(turned, '0'), row(turned, '1'))
		}
	}
	return l
}

// keys are rows near to texts.
func keys(l []string) []api.Vec {
	var rows []api.Vec
	for _, s := range l {
		rows = append(rows, near(s)...)
	}
	return rows
}

// all are all texts of a width, and rows all its rows.
func all(w int) (l []string, rows []api.Vec) {
	l = []string{""}
	for range w {
		var next []string
		for _, s := range l {
			next = append(next, s+".", s+"0", s+"1")
		}
		l = next
	}
	for n := range 1 << w {
		rows = append(rows, api.Vec{W: w, Lo: uint64(n)})
	}
	return l, rows
}

// some are so many rules of a width, none twice; many of them differ in a few bits, or in their ranks, alone.
func some(seed *uint64, w, count int) []rule {
	below := func(n int) int { return int(ground.Number(seed) % uint64(n)) }
	prios := []int{0, 1, 2, 3, 255, 256, 65534, 65535}
	var l []rule
	for len(l) < count {
		s := make([]byte, w)
		for i := range s {
			s[i] = "01..."[below(5)]
		}
		x := rule{s: string(s), prio: prios[below(8)]}
		if len(l) > 0 && below(4) > 0 {
			old := l[below(len(l))]
			at := below(w)
			x.s = old.s[:at] + x.s[at:at+1] + old.s[at+1:]
		}
		if !slices.Contains(l, x) {
			l = append(l, x)
		}
	}
	return l
}

// texts are those of rules.
func texts(l []rule) []string {
	var all []string
	for _, x := range l {
		all = append(all, x.s)
	}
	return all
}

// wrongRows may not be, or are of another width than w.
func wrongRows(w int) []api.Vec {
	l := []api.Vec{{}, {W: 8, Lo: 256}, {W: 63, Lo: 1 << 63}, {W: 64, Hi: 1}, {W: 65, Hi: 2}, {W: 127, Hi: 1 << 63}}
	for _, other := range []int{math.MinInt, math.MinInt32, -128, -w, -1, 0, 129, w - 1, w + 1, w + 64, w - 64, w + 256, math.MaxInt32, math.MaxInt} {
		l = append(l, api.Vec{W: other}, api.Vec{W: other, Lo: 1}, api.Vec{W: other, Hi: math.MaxUint64, Lo: math.MaxUint64})
	}
	switch {
	case w < 64:
		l = append(l, api.Vec{W: w, Lo: 1 << w}, api.Vec{W: w, Lo: math.MaxUint64}, api.Vec{W: w, Hi: 1}, api.Vec{W: w, Hi: 1 << 63})
	case w == 64:
		l = append(l, api.Vec{W: w, Hi: 1}, api.Vec{W: w, Hi: 1 << 63, Lo: 1})
	case w < 128:
		l = append(l, api.Vec{W: w, Hi: 1 << (w - 64)}, api.Vec{W: w, Hi: math.MaxUint64})
	}
	return l
}

// wrongPrios are no ranks.
func wrongPrios() []int {
	return []int{math.MinInt, math.MinInt + 1, math.MinInt32, -65536, -65535, -2, -1, 65536, 65537, 1 << 17, math.MaxInt32, 1 << 32, math.MaxInt - 1, math.MaxInt}
}

// numbers are those that a rule may have: any.
func numbers() []int {
	return []int{0, 1, -1, 7, 255, 256, math.MaxInt32, math.MinInt32, math.MaxInt, math.MinInt}
}

// of is a list with some rules; the number of each is its place, and one.
func of(t *testing.T, w, most int, l ...rule) (*tern.List, *model) {
	t.Helper()
	x, want := tern.New(w, most), newModel(w, most)
	for i, r := range l {
		put(t, x, want, item(r.s, r.prio, i+1))
	}
	return x, want
}

// put, set and drop are done to a list and to its model, and are OK.
func put(t *testing.T, x *tern.List, want *model, y tern.Item) {
	t.Helper()
	is(t, []api.Errno{x.Put(y), want.put(y)}, []api.Errno{api.OK, api.OK}, "Put", y)
}

func set(t *testing.T, x *tern.List, want *model, y tern.Item) {
	t.Helper()
	is(t, []api.Errno{x.Set(y), want.set(y)}, []api.Errno{api.OK, api.OK}, "Set", y)
}

func drop(t *testing.T, x *tern.List, want *model, y tern.Item) {
	t.Helper()
	is(t, []api.Errno{x.Drop(y), want.drop(y)}, []api.Errno{api.OK, api.OK}, "Drop", y)
}

// calls are Put, Set and Drop of a rule.
func calls(x *tern.List, y tern.Item) [3]api.Errno {
	return [3]api.Errno{x.Put(y), x.Set(y), x.Drop(y)}
}

func each(e api.Errno) [3]api.Errno {
	return [3]api.Errno{e, e, e}
}

// got is what Get answers.
func got(x *tern.List, key api.Vec) []any {
	n, prio, found := x.Get(key)
	return []any{n, prio, found}
}

func is(t *testing.T, got, want any, what ...any) {
	t.Helper()
	if !reflect.DeepEqual(got, want) {
		t.Fatalf("%v = %v; want %v", what, got, want)
	}
}
