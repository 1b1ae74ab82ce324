package shape_test

import (
	"math"
	"slices"
	"strconv"
	"strings"
	"testing"

	"shunter/api"
	"shunter/shape"
)

// Promise 8.3: which instances may be.

func TestInstsEdges(t *testing.T) {
	two := []api.Header{header(8), header(16)}
	inst := func(name string, header, depth int) api.Inst {
		return api.Inst{Name: name, Header: header, Depth: depth}
	}
	many := func(n, depth int) []api.Inst {
		l := make([]api.Inst, n)
		for i := range l {
			l[i] = inst("i"+strconv.Itoa(i), i%2, depth)
		}
		return l
	}
	for _, c := range []struct {
		headers []api.Header
		l       []api.Inst
		want    api.Errno
	}{
		{nil, nil, api.OK}, {two, []api.Inst{}, api.OK}, {two, []api.Inst{inst("a", 0, 0), inst("b", 1, 4)}, api.OK}, {two, []api.Inst{inst("a", 1, 1), inst("b", 1, 1)}, api.OK},
		{nil, []api.Inst{inst("a", 0, 0)}, api.ErrNone}, {two, []api.Inst{inst("a", 2, 0)}, api.ErrNone}, {two, []api.Inst{inst("a", -1, 0)}, api.ErrNone}, {two, []api.Inst{inst("a", math.MaxInt, 0)}, api.ErrNone}, {two, []api.Inst{inst("a", math.MinInt, 0)}, api.ErrNone},
		{two, []api.Inst{inst("a", 0, -1)}, api.ErrRange}, {two, []api.Inst{inst("a", 0, 5)}, api.ErrRange}, {two, []api.Inst{inst("a", 0, math.MaxInt)}, api.ErrRange}, {two, []api.Inst{inst("a", 0, math.MinInt)}, api.ErrRange},
		{two, []api.Inst{inst("a", 0, 0), inst("A", 1, 0)}, api.ErrTwice}, {two, []api.Inst{inst("", 0, 0)}, api.ErrForm}, {two, []api.Inst{inst("a.b", 0, 0)}, api.ErrForm}, {two, []api.Inst{inst("a", 0, 0), inst("b", 1, 1), inst("a", 1, 0)}, api.ErrTwice},
		{two, many(16, 0), api.OK}, {two, many(17, 0), api.ErrLong}, {two, many(16, 1), api.OK}, {two, many(16, 2), api.OK}, {two, many(16, 3), api.ErrFull}, {two, many(8, 4), api.OK}, {two, append(many(8, 4), inst("x", 0, 0)), api.ErrFull}, {two, append(many(8, 4), inst("x", 0, 1)), api.ErrFull}, {two, append(many(7, 4), inst("x", 0, 3), inst("y", 0, 0)), api.OK}, {two, many(16, 4), api.ErrFull}, {two, many(17, 4), api.ErrLong}, {two, many(16, 5), api.ErrRange}, {two, make([]api.Inst, 17), api.ErrLong}, {two, make([]api.Inst, 16), api.ErrForm},
		// That a header may be isn't asked, nor how many there are.
		{make([]api.Header, 1), []api.Inst{inst("a", 0, 0)}, api.OK}, {make([]api.Header, 300), []api.Inst{inst("a", 299, 0)}, api.OK}, {make([]api.Header, 300), []api.Inst{inst("a", 300, 0)}, api.ErrNone},
	} {
		is(t, shape.Insts(c.headers, c.l), c.want, "Insts", len(c.headers), c.l)
	}
}

func TestInstsNames(t *testing.T) {
	headers := []api.Header{header(8)}
	headers[0].Name = "a" // of the header an instance may have the name
	for _, s := range wrongNames() {
		is(t, shape.Insts(headers, []api.Inst{{Name: s}, {Name: "b"}}), api.ErrForm, "Insts", s)
		is(t, shape.Insts(headers, []api.Inst{{Name: "a"}, {Name: s}}), api.ErrForm, "Insts", s)
	}
	for from := range rightNames() {
		var l []api.Inst
		for i := range 16 {
			l = append(l, api.Inst{Name: rightNames()[(from+i)%len(rightNames())]})
		}
		is(t, shape.Insts(headers, l), api.OK, "Insts", l)
	}
	for _, p := range alikes() {
		is(t, shape.Insts(headers, []api.Inst{{Name: p[0]}, {Name: "other"}, {Name: p[1]}}), api.ErrTwice, "Insts", p)
		is(t, shape.Insts(headers, []api.Inst{{Name: p[1]}, {Name: p[0]}}), api.ErrTwice, "Insts", p)
	}
	for _, p := range unlikes()[:len(unlikes())-1] {
		is(t, shape.Insts(headers, []api.Inst{{Name: p[0]}, {Name: p[1]}}), api.OK, "Insts", p)
	}
}

// instFlaws break 9 instances of 3 headers, of 32 slots.
func instFlaws() []flaw[[]api.Inst] {
	var l []flaw[[]api.Inst]
	add := func(part string, rank int, e api.Errno, in func(l []api.Inst)) {
		l = append(l, flaw[[]api.Inst]{part, rank, e, func(l []api.Inst) []api.Inst { in(l); return l }})
	}
	l = append(l, flaw[[]api.Inst]{"count", 0, api.ErrLong, func(l []api.Inst) []api.Inst { return append(l, l[:8]...) }})
	for i := range 9 {
		at := strconv.Itoa(i)
		for _, s := range wrongNames()[:8] {
			add("name "+at, 10*i+10, api.ErrForm, func(l []api.Inst) { l[i].Name = s })
		}
		for _, s := range []string{"a", "B", "c", "D", "e", "F", "g", "H"}[:i] {
			add("name "+at, 10*i+11, api.ErrTwice, func(l []api.Inst) { l[i].Name = s })
		}
		for _, n := range []int{-1, 3, math.MaxInt, math.MinInt} {
			add("header "+at, 10*i+12, api.ErrNone, func(l []api.Inst) { l[i].Header = n })
		}
		for _, n := range []int{-1, 5, math.MaxInt, math.MinInt} {
			add("depth "+at, 10*i+13, api.ErrRange, func(l []api.Inst) { l[i].Depth = n })
		}
	}
	add("depth 7", 100, api.ErrFull, func(l []api.Inst) { l[7].Depth = 4 })
	return l
}

func TestInstsTellsTheFirstFault(t *testing.T) {
	headers := []api.Header{header(8), {}, header(7)}
	right := func() []api.Inst {
		var l []api.Inst
		for i := range 9 {
			l = append(l, api.Inst{Name: string(rune('a' + i)), Header: i % 3, Depth: 4})
		}
		l[7].Depth, l[8].Depth = 3, 0 // with the seven ahead all slots there may be
		return l
	}
	isFirst(t, right, instFlaws(), func(l []api.Inst) api.Errno { return shape.Insts(headers, l) })
}

// Promise 8.3: slots.

func TestSlots(t *testing.T) {
	for _, l := range instLists() {
		is(t, shape.Slots(l), len(allSlots(l)), "Slots", l)
	}
	for _, c := range []struct {
		l    []api.Inst
		want int
	}{
		{nil, 0}, {depths(0), 1}, {depths(1), 1}, {depths(2), 2}, {depths(3), 3}, {depths(4), 4}, {depths(5), 0}, {depths(-1), 0}, {depths(0, 3), 4}, {depths(math.MaxInt, math.MinInt), 0}, {depths(slices.Repeat([]int{4}, 16)...), 64}, {make([]api.Inst, 1000), 1000},
	} {
		is(t, shape.Slots(c.l), c.want, "Slots", c.l)
	}
}

func TestFirst(t *testing.T) {
	for _, l := range instLists() {
		slots := allSlots(l)
		for _, i := range ints(len(l)) {
			want := told{slices.Index(slots, inSlot{i, 0}), true}
			if want.n < 0 {
				want = told{}
			}
			is(t, tell(shape.First(l, i)), want, "First", l, i)
		}
	}
	for _, c := range []struct {
		l    []api.Inst
		i    int
		want told
	}{
		{depths(0, 3, 0, 4), 0, told{0, true}}, {depths(0, 3, 0, 4), 1, told{1, true}}, {depths(0, 3, 0, 4), 2, told{4, true}}, {depths(0, 3, 0, 4), 3, told{5, true}}, {depths(0, 3, 0, 4), 4, told{}}, {depths(0, 3), -1, told{}}, {nil, 0, told{}},
		{depths(5, 2), 0, told{}}, {depths(5, 2), 1, told{0, true}}, {depths(2, -1, 2), 1, told{}}, {depths(2, -1, 2), 2, told{2, true}},
	} {
		is(t, tell(shape.First(c.l, c.i)), c.want, "First", c.l, c.i)
	}
}

// of is what Of tells.
type of struct {
	inst, slot int
	ok         bool
}

func tellOf(inst, slot int, ok bool) of { return of{inst, slot, ok} }

func TestOf(t *testing.T) {
	for _, l := range instLists() {
		slots := allSlots(l)
		for _, n := range ints(len(slots)) {
			want := of{}
			if n >= 0 && n < len(slots) {
				want = of{slots[n].inst, slots[n].of, true}
			}
			is(t, tellOf(shape.Of(l, n)), want, "Of", l, n)
		}
	}
	for _, c := range []struct {
		l    []api.Inst
		slot int
		want of
	}{
		{depths(0, 3, 0), 0, of{0, 0, true}}, {depths(0, 3, 0), 1, of{1, 0, true}}, {depths(0, 3, 0), 3, of{1, 2, true}}, {depths(0, 3, 0), 4, of{2, 0, true}}, {depths(0, 3, 0), 5, of{}}, {depths(0, 3, 0), -1, of{}}, {depths(0, 3, 0), math.MinInt, of{}}, {depths(0, 3, 0), math.MaxInt, of{}},
		{nil, 0, of{}}, {depths(5), 0, of{}}, {depths(5, -1, 1), 0, of{2, 0, true}}, {depths(math.MinInt, 2), 1, of{1, 1, true}}, {depths(math.MaxInt, 2), 2, of{}},
	} {
		is(t, tellOf(shape.Of(c.l, c.slot)), c.want, "Of", c.l, c.slot)
	}
}

// Promise 8.4: each slot is one of an instance's, that many behind its first one, and each instance's slots lie together.
func TestSlotsHaveNoGaps(t *testing.T) {
	for _, l := range instLists() {
		next := of{ok: true}
		for slot := range shape.Slots(l) {
			inst, k, ok := shape.Of(l, slot)
			first, isThere := shape.First(l, inst)
			if !ok || !isThere || first+k != slot {
				t.Fatalf("%v: the slot %d is the %d of the instance %d, %t, whose first one is %d, %t", l, slot, k, inst, ok, first, isThere)
			}
			if k > 0 && (inst != next.inst || k != next.slot) || k == 0 && slot > 0 && inst < next.inst {
				t.Fatalf("%v: the slot %d is the %d of the instance %d; want it behind %v", l, slot, k, inst, next)
			}
			next = of{inst, k + 1, true}
		}
		is(t, tellOf(shape.Of(l, shape.Slots(l))), of{}, "Of behind all", l)
		for i := range l {
			if first, ok := shape.First(l, i); ok {
				is(t, tellOf(shape.Of(l, first)), of{i, 0, true}, "Of the first one", l, i)
			}
		}
	}
}

// Promise 8.3: headers of slots, and what is alike.

// someHeaders are three, of which one may not be.
func someHeaders() []api.Header {
	l := []api.Header{header(4, 4, 8), varying(40, 1, 4, 20, 4, 4, 8), {Name: "a.b", Fields: []api.Field{{Name: "", W: -1}, {Name: "x", W: 1000}}, Var: -1, By: 7, Mul: 8, Sub: 9}}
	l[0].Name = "first"
	return l
}

func TestHeader(t *testing.T) {
	for _, l := range instLists() {
		slots := allSlots(l)
		for _, n := range ints(len(slots)) {
			for _, count := range []int{0, 1, 2, 3} {
				headers := someHeaders()[:count]
				want, there := api.Header{}, n >= 0 && n < len(slots) && l[slots[n].inst].Header < count
				if there {
					want = headers[l[slots[n].inst].Header]
				}
				got, ok := shape.Header(headers, l, n)
				is(t, got, want, "Header", l, n)
				is(t, ok, there, "Header is there", l, n)
			}
		}
	}
	for _, n := range []int{-1, 3, math.MaxInt, math.MinInt} {
		got, ok := shape.Header(someHeaders(), []api.Inst{{Header: n}, {Header: 0}}, 0)
		is(t, got, api.Header{}, "Header there isn't", n)
		is(t, ok, false, "Header there isn't", n)
		got, ok = shape.Header(someHeaders(), []api.Inst{{Header: n}, {Header: 0}}, 1)
		is(t, got, someHeaders()[0], "Header behind it", n)
		is(t, ok, true, "Header behind it", n)
	}
	empty, ok := shape.Header([]api.Header{{Name: "h", Fields: []api.Field{}}}, make([]api.Inst, 1), 0)
	if !ok || empty.Name != "h" || len(empty.Fields) != 0 {
		t.Errorf("Header without fields = %v, %t", empty, ok)
	}
}

func TestHeaderIsNewMemory(t *testing.T) {
	turn := func(h api.Header) {
		l := h.Fields[:cap(h.Fields)]
		for i := range l {
			l[i] = api.Field{Name: "turned", W: -7}
		}
	}
	for slot := range 3 {
		headers, l := someHeaders(), depths(0, 0, 0)
		headers[slot].Fields = append(headers[slot].Fields, api.Field{Name: "behind"})[:len(headers[slot].Fields)]
		first, _ := shape.Header(headers, l, slot)
		second, _ := shape.Header(headers, l, slot)
		turn(first)
		is(t, second, someHeaders()[slot], "turned what was told:")
		is(t, headersCopy(headers), headersCopy(someHeaders()), "turned what was told:")
		is(t, headers[slot].Fields[:len(headers[slot].Fields)+1][len(headers[slot].Fields)], api.Field{Name: "behind"}, "turned what was told:")
		turn(headers[slot])
		is(t, second, someHeaders()[slot], "turned what was handed in:")
	}
}

func TestFind(t *testing.T) {
	named := func(l ...string) []api.Inst {
		var insts []api.Inst
		for i, s := range l {
			insts = append(insts, api.Inst{Name: s, Header: -1, Depth: 9 - i})
		}
		return insts
	}
	for _, c := range []struct {
		l    []api.Inst
		s    string
		want int
	}{
		{nil, "a", -1}, {nil, "", -1}, {named("eth", "ip"), "ip", 1}, {named("eth", "ip"), "ETH", 0}, {named("eth", "ip"), "udp", -1}, {named("eth", "ip"), "", -1}, {named("eth", "ip"), "ip.ttl", -1}, {named("x", "A", "a"), "a", 1}, {named("a.b", ""), "A.B", 0}, {named("a.b", ""), "", 1}, {named("\xff"), "\ufffd", 0},
	} {
		is(t, shape.Find(c.l, c.s), c.want, "Find", c.l, c.s)
	}
	for _, p := range alikes() {
		is(t, shape.Find(named("x", p[0], p[1]), p[1]), 1, "Find", p)
	}
	for _, p := range unlikes() {
		is(t, shape.Find(named("x", p[0], "y"), p[1]), -1, "Find", p)
	}
	for i, s := range rightNames() {
		is(t, shape.Find(named(rightNames()...), strings.Clone(s)), i, "Find", s)
	}
}

// What is handed in stays as it is.
func TestInstsStay(t *testing.T) {
	for _, l := range instLists() {
		headers, kept := someHeaders(), slices.Clone(l)
		shape.Insts(headers, l)
		shape.Slots(l)
		shape.First(l, 1)
		shape.Of(l, 3)
		shape.Header(headers, l, 0)
		shape.Find(l, "i")
		is(t, l, kept, "the calls changed")
		is(t, headers, someHeaders(), "the calls changed")
	}
}
