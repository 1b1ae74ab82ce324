package flow_test

import (
	"math"
	"slices"
	"testing"

	"shunter/api"
	"shunter/flow"
	"shunter/ground"
)

// Promise 15.1: sets.

func someSets() []flow.Set {
	l := []flow.Set{0, 1, 2, 3, 1 << 31, 1 << 32, 1 << 62, 1 << 63, 1<<63 | 1, full, full - 1, full >> 1, 0x5555555555555555, 0xaaaaaaaaaaaaaaaa, 0xffffffff}
	for i := range uint64(40) {
		l = append(l, flow.Set(ground.Number(&i)))
	}
	return l
}

// noSlots are numbers that are no slot of any set.
func noSlots() []int {
	return []int{-1, -2, -63, -64, 64, 65, 127, 128, 1 << 32, 1<<32 + 5, math.MaxInt, math.MinInt, math.MinInt + 5}
}

func TestOneSlot(t *testing.T) {
	for _, s := range someSets() {
		for slot := range 64 {
			in := s>>slot&1 == 1
			is(t, s.Has(slot), in, s, "Has", slot)
			for other := range 64 {
				is(t, s.With(slot).Has(other), other == slot || s>>other&1 == 1, s, "With", slot, "Has", other)
				is(t, s.Without(slot).Has(other), other != slot && s>>other&1 == 1, s, "Without", slot, "Has", other)
			}
			is(t, s.With(slot) == s, in, s, "With", slot)
			is(t, s.Without(slot) == s, !in, s, "Without", slot)
		}
		for _, slot := range noSlots() {
			is(t, s.Has(slot), false, s, "Has", slot)
			is(t, s.With(slot), s, s, "With", slot)
			is(t, s.Without(slot), s, s, "Without", slot)
		}
	}
	is(t, flow.Set(0).With(5), flow.Set(32), "the bit of a slot")
	is(t, flow.Set(0).With(63), flow.Set(1<<63), "the bit of the last slot")
	is(t, full.Without(0), full-1, "all but the first slot")
}

func TestTwoSets(t *testing.T) {
	for _, a := range someSets() {
		for _, b := range someSets() {
			both, within := a.Both(b), true
			for slot := range 64 {
				is(t, both>>slot&1 == 1, a>>slot&1 == 1 && b>>slot&1 == 1, a, "Both", b, "at", slot)
				within = within && (a>>slot&1 == 0 || b>>slot&1 == 1)
			}
			is(t, a.Within(b), within, a, "Within", b)
		}
		is(t, []bool{a.Within(a), a.Within(full), flow.Set(0).Within(a), a.Within(0)}, []bool{true, true, true, a == 0}, a, "Within")
	}
}

func TestList(t *testing.T) {
	for _, c := range []struct {
		s flow.Set
		l []int
	}{{0, nil}, {1, []int{0}}, {1 << 63, []int{63}}, {0x8000000100000005, []int{0, 2, 32, 63}}} {
		if got := c.s.List(); !slices.Equal(got, c.l) {
			t.Errorf("List of %x = %v; want %v", uint64(c.s), got, c.l)
		}
	}
	for _, s := range someSets() {
		l := s.List()
		is(t, slices.IsSorted(l), true, "rising:", l)
		is(t, set(l...), s, "List of", s)
		is(t, flow.Of(l), s, "Of the List of", s)
		count := 0
		for slot := range 64 {
			count += int(s >> slot & 1)
		}
		is(t, len(l), count, "how many of", s)
	}
	l := full.List()
	l[0] = 7
	is(t, full.List()[0], 0, "behind writing into a List")
}

func TestOf(t *testing.T) {
	for _, c := range []struct {
		l []int
		s flow.Set
	}{
		{nil, 0}, {[]int{}, 0}, {[]int{0}, 1}, {[]int{63}, 1 << 63}, {[]int{3, 1, 3, 1}, 10}, {[]int{64}, 0}, {[]int{-1}, 0}, {[]int{-1, 5, 64, 6, math.MaxInt, math.MinInt}, 96}, {noSlots(), 0},
		{slices.Repeat([]int{9, 8}, 10000), 768}, {append(noSlots(), 63, 0), 1<<63 | 1},
	} {
		kept := slices.Clone(c.l)
		is(t, flow.Of(c.l), c.s, "Of", c.l)
		is(t, slices.Equal(c.l, kept), true, "the list as it was")
	}
}

// insts are n instances without a name, of a header that there isn't.
func insts(n, depth int) []api.Inst {
	return slices.Repeat([]api.Inst{{Header: -1, Depth: depth}}, n)
}

func TestAll(t *testing.T) {
	for _, c := range []struct {
		m api.Image
		s flow.Set
	}{
		{api.Image{}, 0}, {ground.LeastImage(), 0}, {right(), 0x7f}, {many(), 0xffffffff},
		// Nothing but depths is asked, and of more than 64 slots there are the first 64.
		{api.Image{Insts: insts(1, 0)}, 1}, {api.Image{Insts: insts(3, 4)}, 0xfff}, {api.Image{Insts: insts(2, 5)}, 0}, {api.Image{Insts: insts(2, -1)}, 0}, {api.Image{Insts: append(insts(2, 3), append(insts(1, 5), insts(1, 1)...)...)}, 0x7f},
		{api.Image{Insts: insts(63, 0)}, full >> 1}, {api.Image{Insts: insts(64, 1)}, full}, {api.Image{Insts: insts(65, 0)}, full}, {api.Image{Insts: insts(21, 3)}, full >> 1}, {api.Image{Insts: insts(22, 3)}, full}, {api.Image{Insts: insts(10000, 4)}, full},
	} {
		is(t, flow.All(c.m), c.s, "All of", len(c.m.Insts), "instances")
	}
	for i, m := range ground.Images() {
		is(t, flow.All(m), flow.Set(1)<<slots(m)-1, "All of the image", i)
	}
}
