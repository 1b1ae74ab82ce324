package image_test

import (
	"math"
	"slices"
	"testing"

	"shunter/api"
	"shunter/image"
)

// told is a number, and whether there is one.
type told struct {
	n  int
	ok bool
}

func tellOf(n int, ok bool) told { return told{n, ok} }

// odd is an image that isn't right: of instances and headers that may not be.
func odd() api.Image {
	return api.Image{
		Headers: []api.Header{{Fields: []api.Field{{W: 0}, {W: -5}, {Name: ".", W: 1000}, {W: math.MaxInt}, {W: 7}}}, {Name: "empty"}},
		// The slots: 0; none; 1; 2; 3, 4; none; 5.
		Insts: []api.Inst{{Header: 0}, {Header: 0, Depth: 5}, {Header: 9}, {Header: 1}, {Header: -1, Depth: 2}, {Depth: -1}, {Depth: 1}},
		Metas: append(slices.Repeat([]api.Field{{W: 3}}, 20), api.Field{W: -1}, api.Field{W: 129}, api.Field{}),
	}
}

// images are some that are right, and some that aren't.
func images() []api.Image {
	l := []api.Image{right(), least(), odd(), {}, {Metas: []api.Field{}, Insts: []api.Inst{}, Headers: []api.Header{}}, {Insts: make([]api.Inst, 40)}, {Headers: right().Headers}}
	for _, f := range allFlaws() {
		if f.part >= 1 && f.part <= 3 {
			m := right()
			f.in(&m)
			l = append(l, m)
		}
	}
	return l
}

// numbers are from below 0 to above a count, and the outermost ones.
func numbers(count int) []int {
	l := outside()
	for n := -3; n <= count+3; n++ {
		l = append(l, n)
	}
	return l
}

// Promise 10.2: what there is.

func TestSlotAndField(t *testing.T) {
	for _, m := range images() {
		for _, slot := range numbers(34) {
			fields, ok := fieldsOf(m, slot)
			want := api.Header{}
			if ok {
				want = m.Headers[m.Insts[slots(m)[slot]].Header]
			}
			h, there := image.Slot(m, slot)
			is(t, there, ok, "Slot is there", slot)
			is(t, h, want, "Slot", slot)
			for _, f := range numbers(17) {
				want := told{}
				if has(fields, f) {
					want = told{fields[f].W, true}
				}
				is(t, tellOf(image.Field(m, slot, f)), want, "Field", slot, f)
			}
		}
	}
}

func TestFieldEdges(t *testing.T) {
	for _, c := range []struct {
		m       api.Image
		slot, f int
		want    told
	}{
		{right(), 0, 0, told{48, true}}, {right(), 0, 2, told{16, true}}, {right(), 0, 3, told{}}, {right(), 1, 2, told{12, true}}, {right(), 3, 0, told{3, true}}, {right(), 4, 3, told{16, true}}, {right(), 4, 4, told{}}, {right(), 5, 3, told{128, true}}, {right(), 5, 4, told{16, true}}, {right(), 6, 1, told{4, true}}, {right(), 7, 0, told{}}, {right(), -1, 0, told{}}, {right(), 0, -1, told{}},
		{least(), 0, 0, told{}}, {api.Image{}, 0, 0, told{}},
		{odd(), 0, 0, told{0, true}}, {odd(), 0, 1, told{-5, true}}, {odd(), 0, 2, told{1000, true}}, {odd(), 0, 3, told{math.MaxInt, true}}, {odd(), 0, 5, told{}}, {odd(), 1, 0, told{}}, {odd(), 2, 0, told{}}, {odd(), 3, 0, told{}}, {odd(), 5, 4, told{7, true}}, {odd(), 6, 0, told{}},
	} {
		is(t, tellOf(image.Field(c.m, c.slot, c.f)), c.want, "Field", c.slot, c.f)
	}
}

func TestSlotIsNewMemory(t *testing.T) {
	for slot := range 7 {
		m := right()
		first, _ := image.Slot(m, slot)
		second, _ := image.Slot(m, slot)
		turn := func(h api.Header) {
			for i := range h.Fields[:cap(h.Fields)] {
				h.Fields[:cap(h.Fields)][i] = api.Field{Name: "turned"}
			}
		}
		turn(first)
		is(t, m, right(), "turned what was told:")
		for _, h := range m.Headers {
			turn(h)
		}
		m = right()
		is(t, second, m.Headers[m.Insts[slots(m)[slot]].Header], "turned what was handed in:")
	}
}

func TestMeta(t *testing.T) {
	for _, m := range images() {
		widths := []int{8, 8, 8, 1, 8, 1, 16, 8}
		for _, f := range m.Metas {
			widths = append(widths, f.W)
		}
		for _, i := range numbers(40) {
			want := told{}
			if has(widths, i) {
				want = told{widths[i], true}
			}
			is(t, tellOf(image.Meta(m, i)), want, "Meta", i)
		}
	}
	for _, c := range []struct {
		m    api.Image
		i    int
		want told
	}{
		{api.Image{}, api.MetaIn, told{8, true}}, {api.Image{}, api.MetaOut, told{8, true}}, {api.Image{}, api.MetaGroup, told{8, true}}, {api.Image{}, api.MetaDrop, told{1, true}}, {api.Image{}, api.MetaClone, told{8, true}}, {api.Image{}, api.MetaAgain, told{1, true}}, {api.Image{}, api.MetaSize, told{16, true}}, {api.Image{}, api.MetaRound, told{8, true}}, {api.Image{}, 8, told{}},
		{right(), 8, told{8, true}}, {right(), 9, told{128, true}}, {right(), 10, told{1, true}}, {right(), 11, told{}}, {right(), -1, told{}},
		{odd(), 27, told{3, true}}, {odd(), 28, told{-1, true}}, {odd(), 29, told{129, true}}, {odd(), 30, told{0, true}}, {odd(), 31, told{}},
	} {
		is(t, tellOf(image.Meta(c.m, c.i)), c.want, "Meta", c.i)
	}
}

// stack is what Stacked tells.
type stack struct {
	first, depth int
	ok           bool
}

func tellStack(first, depth int, ok bool) stack { return stack{first, depth, ok} }

func TestStacked(t *testing.T) {
	for _, m := range images() {
		for _, i := range numbers(40) {
			want := stack{}
			if first := slices.Index(slots(m), i); first >= 0 && m.Insts[i].Depth > 0 {
				want = stack{first, m.Insts[i].Depth, true}
			}
			is(t, tellStack(image.Stacked(m, i)), want, "Stacked", i)
		}
	}
	for _, c := range []struct {
		m    api.Image
		inst int
		want stack
	}{
		{right(), 0, stack{}}, {right(), 1, stack{1, 3, true}}, {right(), 2, stack{}}, {right(), 3, stack{5, 1, true}}, {right(), 4, stack{}}, {right(), 5, stack{}}, {right(), -1, stack{}},
		{odd(), 1, stack{}}, {odd(), 2, stack{}}, {odd(), 4, stack{3, 2, true}}, {odd(), 5, stack{}}, {odd(), 6, stack{5, 1, true}}, {api.Image{}, 0, stack{}},
	} {
		is(t, tellStack(image.Stacked(c.m, c.inst)), c.want, "Stacked", c.inst)
	}
}

func TestKeyEdges(t *testing.T) {
	field := func(slot, f int) api.Key { return api.Key{Kind: api.KeyField, A: slot, B: f} }
	meta := func(i int) api.Key { return api.Key{Kind: api.KeyMeta, A: i} }
	look := func(a, b int) api.Key { return api.Key{Kind: api.KeyLook, A: a, B: b} }
	of := func(l ...api.Key) []api.Key { return l }
	for _, c := range []struct {
		m    api.Image
		l    []api.Key
		want told
	}{
		{right(), nil, told{0, true}}, {right(), of(), told{0, true}}, {api.Image{}, nil, told{0, true}},
		{right(), of(field(0, 2)), told{16, true}}, {right(), of(field(0, 3)), told{}}, {right(), of(field(7, 0)), told{}}, {right(), of(field(-1, 0)), told{}}, {right(), of(field(0, -1)), told{}}, {right(), of(field(math.MinInt, math.MaxInt)), told{}},
		{right(), of(meta(0)), told{8, true}}, {right(), of(meta(9)), told{128, true}}, {right(), of(meta(11)), told{}}, {right(), of(meta(-1)), told{}}, {api.Image{}, of(meta(8)), told{}}, {api.Image{}, of(meta(6)), told{16, true}},
		{right(), of(look(0, 1)), told{1, true}}, {right(), of(look(1024, 64)), told{64, true}}, {api.Image{}, of(look(0, 64), look(0, 64)), told{128, true}}, {api.Image{}, of(look(0, 64), look(0, 64), look(0, 1)), told{}},
		{right(), of(api.Key{Kind: 3}), told{}}, {right(), of(api.Key{Kind: -1}), told{}}, {right(), of(api.Key{Kind: math.MaxInt}), told{}}, {right(), of(field(0, 0), api.Key{Kind: 3}), told{}},
		{right(), of(field(0, 0), field(0, 1), meta(0), field(0, 2), meta(1)), told{128, true}}, {right(), of(field(0, 0), field(0, 1), meta(0), field(0, 2), meta(1), meta(3)), told{}}, {right(), of(meta(9), meta(3)), told{}}, {right(), of(meta(3), meta(9)), told{}}, {right(), of(field(5, 3)), told{128, true}}, {right(), of(field(5, 3), field(7, 0)), told{}},
		{right(), slices.Repeat(of(meta(3)), 128), told{128, true}}, {right(), slices.Repeat(of(meta(3)), 129), told{}}, {right(), slices.Repeat(of(meta(6)), 8), told{128, true}}, {right(), slices.Repeat(of(look(0, math.MaxInt)), 2), told{}}, {right(), slices.Repeat(of(look(0, math.MinInt)), 2), told{}}, {right(), of(look(0, 64), look(0, -64)), told{}}, {right(), of(look(0, 0)), told{}}, {right(), of(look(0, -1)), told{}}, {right(), of(look(0, 129)), told{}},
		// Of what isn't there it is that alone; that a part may not be is Check's to tell.
		{right(), of(look(-1, 8)), told{8, true}}, {right(), of(look(1025, 8)), told{8, true}}, {right(), of(look(0, 65)), told{65, true}}, {right(), of(api.Key{Kind: api.KeyMeta, A: 1, B: 7}), told{8, true}},
		{odd(), of(field(0, 4)), told{7, true}}, {odd(), of(field(0, 2)), told{}}, {odd(), of(field(0, 3)), told{}}, {odd(), of(field(0, 1)), told{}}, {odd(), of(field(1, 0)), told{}}, {odd(), of(field(5, 4), meta(8)), told{10, true}}, {odd(), of(meta(29)), told{}},
	} {
		is(t, tellOf(image.Key(c.m, c.l)), c.want, "Key", c.l)
	}
}

func TestKey(t *testing.T) {
	m := right()
	var parts []api.Key
	for a := -1; a < 12; a++ {
		for b := -1; b < 6; b++ {
			parts = append(parts, api.Key{Kind: api.KeyField, A: a, B: b})
		}
		parts = append(parts, api.Key{Kind: api.KeyMeta, A: a}, api.Key{Kind: api.KeyLook, A: 3, B: 4*a + 20}, api.Key{Kind: api.KeyKind(a + 3)})
	}
	for _, first := range parts {
		for _, second := range parts {
			l := []api.Key{first, second}
			one, two := widthOf(m, first), widthOf(m, second)
			want := told{}
			if one > 0 && two > 0 && one+two <= 128 {
				want = told{one + two, true}
			}
			is(t, tellOf(image.Key(m, l)), want, "Key", l)
		}
	}
}

// What is handed in stays as it is.
func TestTheCallsChangeNothing(t *testing.T) {
	for _, m := range images() {
		kept := image.Copy(m)
		keys := []api.Key{{}, {Kind: api.KeyMeta}}
		image.Slot(m, 1)
		image.Field(m, 1, 1)
		image.Meta(m, 9)
		image.Stacked(m, 1)
		image.Key(m, keys)
		image.Code(m, []int{1}, everyIns())
		image.Same(m, right())
		is(t, image.Same(m, kept), true, "the calls changed")
		is(t, keys, []api.Key{{}, {Kind: api.KeyMeta}}, "the calls changed")
	}
}
