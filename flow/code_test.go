package flow_test

import (
	"reflect"
	"slices"
	"testing"

	"shunter/api"
	"shunter/flow"
	"shunter/ground"
	"shunter/image"
)

// Promise 15.3: what is surely there behind code.

func TestExamples(t *testing.T) {
	l := of(gone(0, 3), get(0), op(api.OpPutMeta, 1))
	for _, s := range someSets() {
		is(t, tell(flow.Code(right(), l, s)), told{s.Without(0), 0, api.OK}, texts(l), s)
	}
	is(t, tell(flow.Code(right(), l[1:], full-1)), told{0, 0, api.ErrValid}, texts(l[1:]))
}

func TestStraightCode(t *testing.T) {
	ok, valid := api.OK, api.ErrValid
	for _, c := range []struct {
		l    []api.Ins
		s    flow.Set
		want told
	}{
		{nil, 0, told{0, 0, ok}}, {of(), full, told{full, 0, ok}}, {nil, set(1, 40, 63), told{set(1, 40, 63), 0, ok}},
		{of(get(0)), set(0), told{set(0), 0, ok}}, {of(get(0)), 0, told{0, 0, valid}}, {of(put(0)), full - 1, told{0, 0, valid}}, {of(get(0), put(6)), set(0, 6), told{set(0, 6), 0, ok}}, {of(get(0), put(6)), set(0), told{0, 1, valid}}, {of(get(0), put(6)), set(6), told{0, 0, valid}},
		{of(show(4), get(4)), set(1), told{set(1, 4), 0, ok}}, {of(show(4), get(5)), set(1), told{0, 1, valid}}, {of(hide(4), put(4)), full, told{0, 1, valid}}, {of(hide(4), show(4), put(4)), full, told{full, 0, ok}}, {of(show(4), hide(4)), 0, told{0, 0, ok}}, {of(show(4), hide(4), get(4)), set(4), told{0, 2, valid}}, {of(get(4), hide(4)), full, told{full &^ set(4), 0, ok}},
		// Whether a slot is there was asked, but nothing jumps.
		{of(op(api.OpValid, 4), get(4)), 0, told{0, 1, valid}},
		{of(op(api.OpPushHead, 1, 1), get(1)), set(1, 2), told{0, 1, valid}}, {of(op(api.OpPushHead, 1, 1), get(2), get(3)), set(1, 2), told{set(2, 3), 0, ok}}, {of(op(api.OpPushHead, 1, 1), show(1), op(api.OpPopHead, 1, 2), get(1)), set(2), told{set(1), 0, ok}}, {of(op(api.OpPushHead, 1, 2), op(api.OpPopHead, 1, 2), get(2)), set(1, 2), told{0, 2, valid}}, {of(op(api.OpPushHead, 3, 1), get(5)), full, told{0, 1, valid}}, {of(op(api.OpPushHead, 3, 4), get(4), get(6)), full, told{full &^ set(5), 0, ok}},
		// The first one is told.
		{of(push(8), get(0), get(1)), 0, told{0, 1, valid}}, {of(get(2), put(1), get(1)), set(2), told{0, 1, valid}},
		// Widths, and what lies on the stack, are no matter of this layer, nor what may not be written.
		{of(op(api.OpAdd), op(api.OpPutMeta, 0), push(3), op(api.OpPutReg, 1)), set(2), told{set(2), 0, ok}},
	} {
		is(t, tell(flow.Code(right(), c.l, c.s)), c.want, texts(c.l), c.s)
	}
}

// Promise 15.3: of ways that meet, what is so by each.
func TestWaysMeet(t *testing.T) {
	ok, valid := api.OK, api.ErrValid
	for _, c := range []struct {
		l    []api.Ins
		s    flow.Set
		want told
	}{
		// One way shows, or hides, and the other one doesn't.
		{of(zero(2), show(4)), set(1), told{set(1), 0, ok}}, {of(zero(2), show(4), get(4)), set(1), told{0, 2, valid}}, {of(zero(2), hide(4)), set(1, 4), told{set(1), 0, ok}}, {of(zero(2), hide(4), get(4)), set(4), told{0, 2, valid}},
		{of(zero(3), show(4), jump(4), show(4), get(4)), 0, told{set(4), 0, ok}}, {of(zero(4), show(4), show(5), jump(6), show(5), show(6)), set(1), told{set(1, 5), 0, ok}}, {of(zero(4), show(4), show(5), jump(6), show(5), show(6), get(4)), 0, told{0, 6, valid}}, {of(zero(4), show(4), show(5), jump(6), show(5), show(6), get(6)), 0, told{0, 6, valid}}, {of(zero(4), show(4), show(5), jump(6), show(5), show(6), get(5)), 0, told{set(5), 0, ok}},
		// Three ways: it is so by two of them alone.
		{of(zero(3), show(4), jump(5), zero(5), show(4)), set(0), told{set(0), 0, ok}}, {of(zero(3), show(4), jump(6), zero(5), show(4), show(4)), set(0), told{set(0, 4), 0, ok}},
		// A jump-gone: there behind it, and gone where it goes, also if it was sure ahead.
		{of(gone(4, 2), get(4)), 0, told{0, 0, ok}}, {of(gone(4, 1), get(4)), full, told{0, 1, valid}}, {of(gone(4, 2), stop(), get(4)), full, told{0, 2, valid}}, {of(gone(4, 2), stop(), get(5)), set(4, 5), told{set(5), 0, ok}}, {of(gone(4, 2), get(4)), set(4), told{0, 0, ok}}, {of(gone(4, 2), get(5)), set(4), told{0, 1, valid}}, {of(gone(4, 1)), full, told{full &^ set(4), 0, ok}},
		{of(gone(4, 3), get(4), jump(4), show(4), get(4)), 0, told{set(4), 0, ok}}, {of(gone(4, 2), hide(4), show(4), put(4)), 0, told{set(4), 0, ok}}, {of(gone(4, 2), gone(5, 2)), set(4, 5, 6), told{set(6), 0, ok}}, {of(gone(4, 4), gone(5, 4), get(4), put(5)), set(0), told{set(0), 0, ok}}, {of(gone(4, 4), gone(5, 4), get(4), put(5), get(4)), 0, told{0, 4, valid}},
		// A jump-zero leads to both as it is.
		{of(zero(1), get(4)), set(4), told{set(4), 0, ok}}, {of(zero(2), get(4), put(4)), set(4), told{set(4), 0, ok}}, {of(zero(2), get(4), put(4)), 0, told{0, 1, valid}},
		// Several ends: stops and the last place.
		{of(stop()), set(3), told{set(3), 0, ok}}, {of(show(4), zero(3), stop(), show(5)), set(0), told{set(0, 4), 0, ok}}, {of(zero(3), show(4), stop(), show(4), show(5), stop()), 0, told{set(4), 0, ok}}, {of(zero(3), show(4), stop(), show(5)), set(6), told{set(6), 0, ok}}, {of(zero(2), stop(), show(5)), set(6), told{set(6), 0, ok}}, {of(zero(2), jump(3), show(5)), set(6), told{set(6), 0, ok}}, {of(zero(3), hide(6), stop(), show(5), stop()), set(6, 1), told{set(1), 0, ok}},
		// What isn't reached is of no matter: no fault, no way, no end.
		{of(stop(), get(4)), 0, told{0, 0, ok}}, {of(jump(2), get(4)), set(1), told{set(1), 0, ok}}, {of(jump(2), hide(1)), set(1), told{set(1), 0, ok}}, {of(jump(3), hide(1), stop()), set(1), told{set(1), 0, ok}}, {of(show(4), stop(), hide(4)), 0, told{set(4), 0, ok}}, {of(stop(), hide(1), stop()), set(1), told{set(1), 0, ok}}, {of(jump(3), zero(4), hide(1), show(2), get(1)), set(1), told{set(1, 2), 0, ok}}, {of(jump(3), gone(1, 4), stop(), get(1)), set(1), told{set(1), 0, ok}},
		{of(jump(2), stop(), get(4)), 0, told{0, 2, valid}}, {of(jump(1), get(4)), 0, told{0, 1, valid}}, {of(zero(2), stop(), get(4)), 0, told{0, 2, valid}}, {of(gone(5, 2), stop(), get(4)), 0, told{0, 2, valid}},
		// Of two faults the one at the lesser place, whichever way comes to it.
		{of(zero(3), show(4), jump(4), get(5), get(4)), 0, told{0, 3, valid}}, {of(zero(3), get(4), stop(), get(5)), 0, told{0, 1, valid}}, {of(zero(3), show(4), get(4), get(4)), 0, told{0, 3, valid}},
		// Stacks that are moved on one way.
		{of(zero(2), op(api.OpPushHead, 1, 1)), set(1, 2), told{set(2), 0, ok}}, {of(zero(2), op(api.OpPopHead, 1, 1), get(2)), set(1, 2), told{0, 2, valid}}, {of(zero(2), op(api.OpPopHead, 1, 1), get(2)), set(1, 2, 3), told{set(1, 2), 0, ok}},
	} {
		is(t, tell(flow.Code(right(), c.l, c.s)), c.want, texts(c.l), c.s)
		is(t, modelOf(right(), c.l, c.s).code(), c.want, "the model:", texts(c.l), c.s)
	}
}

// As much code as there may be, and the last slot of an image.
func TestLongCode(t *testing.T) {
	m := many()
	l := slices.Repeat(of(gone(31, 64), op(api.OpField, 31, 0)), 32)
	is(t, tell(flow.Code(m, l, set(30, 31))), told{set(30), 0, api.OK}, "64 instructions")
	is(t, tell(flow.Code(m, append(l, stop()), set(30, 31))), told{0, 0, api.ErrArg}, "65 instructions")
	l[63] = get(29)
	is(t, tell(flow.Code(m, l, set(30, 31))), told{0, 63, api.ErrValid}, "at the last one")
	l[62] = jump(64)
	is(t, tell(flow.Code(m, l, set(30, 31))), told{set(30), 0, api.OK}, "past the last one")
	// 2 to the 64 ways.
	l = nil
	for i := range 64 {
		l = append(l, zero(i+1))
	}
	is(t, tell(flow.Code(m, l, full)), told{full, 0, api.OK}, "a jump at each place")
	is(t, tell(flow.Code(m, slices.Repeat(of(stop()), 64), set(5))), told{set(5), 0, api.OK}, "64 stops")
	is(t, tell(flow.Code(m, slices.Repeat(of(zero(64)), 64), set(5))), told{set(5), 0, api.OK}, "64 jumps to the end")
}

// Promise 15.3: what is refused as a whole, ahead of what isn't there.

func TestCodeOfFlaws(t *testing.T) {
	for i, in := range ground.Flaws() {
		for _, l := range [][]api.Ins{nil, of(push(8)), of(get(0)), of(get(32)), of(jump(0))} {
			is(t, tell(flow.Code(ground.Changed(in), l, set(1))), told{0, 0, api.ErrArg}, "the flaw", i, texts(l))
		}
	}
	is(t, tell(flow.Code(api.Image{}, nil, full)), told{0, 0, api.ErrArg}, "a zero image")
}

// Whatever layer 10's Code refuses, also where it isn't reached, and behind what isn't there.
func TestCodeThatMayNotBe(t *testing.T) {
	for _, x := range append(mayNotBe(),
		get(7), op(api.OpField, 4, 4), put(7), op(api.OpPutField, 0, 3), show(7), hide(7), op(api.OpValid, 7), gone(7, 4), op(api.OpPushHead, 0, 1), op(api.OpPopHead, 2, 1), op(api.OpPushHead, 5, 1), op(api.OpMeta, 11), op(api.OpPutMeta, 11), op(api.OpReg, 2), op(api.OpPutReg, 2), op(api.OpCount, 3), op(api.OpMeter, 2), op(api.OpParam, 8),
		jump(0), jump(2), jump(5), zero(2), zero(5), gone(0, 2), gone(0, 1), gone(0, 5),
	) {
		for _, l := range [][]api.Ins{of(push(8), show(0), x, op(api.OpNot)), of(stop(), stop(), x, stop()), of(get(0), get(0), x, stop())} {
			if image.Code(right(), []int{1, 2, 3, 4, 5, 6, 7, 8}, l) == api.OK {
				t.Fatal("may be:", texts(l))
			}
			for _, s := range []flow.Set{0, full} {
				is(t, tell(flow.Code(right(), l, s)), told{0, 0, api.ErrArg}, texts(l), s)
			}
		}
	}
	is(t, tell(flow.Code(right(), slices.Repeat(of(get(0)), 65), 0)), told{0, 0, api.ErrArg}, "65 fields")
	is(t, tell(flow.Code(right(), slices.Repeat(of(stop()), 5000), 0)), told{0, 0, api.ErrArg}, "5000 stops")
	is(t, tell(flow.Code(ground.LeastImage(), of(show(0)), 0)), told{0, 0, api.ErrArg}, "no slot")
}

// Code may ask for as many parameters as there may be.
func TestParameters(t *testing.T) {
	for n := range 8 {
		for _, m := range []api.Image{right(), ground.LeastImage()} {
			is(t, tell(flow.Code(m, of(op(api.OpParam, n), op(api.OpPutMeta, 1)), set(9))), told{set(9), 0, api.OK}, "the parameter", n)
		}
	}
}

// What is handed in is neither changed nor kept.
func TestCodeChangesNothing(t *testing.T) {
	m := right()
	l := of(gone(4, 3), get(4), hide(4), show(5), push(8))[:4]
	first := tell(flow.Code(m, l, set(0)))
	is(t, first, told{set(0, 5), 0, api.OK}, "Code")
	is(t, reflect.DeepEqual(m, right()), true, "the image as it was")
	is(t, l[:5], of(gone(4, 3), get(4), hide(4), show(5), push(8)), "the code as it was")
	clear(m.Insts)
	clear(l)
	is(t, tell(flow.Code(right(), of(gone(4, 3), get(4), hide(4), show(5)), set(0))), first, "Code again")
	is(t, tell(flow.Code(right(), nil, set(0))), told{set(0), 0, api.OK}, "other code")
}
