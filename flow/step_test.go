package flow_test

import (
	"math"
	"slices"
	"testing"

	"shunter/api"
	"shunter/code"
	"shunter/flow"
	"shunter/ground"
	"shunter/image"
)

// Promise 15.2: what an instruction does to a set.

// step is what Step tells.
type step struct {
	s flow.Set
	e api.Errno
}

func tellStep(s flow.Set, e api.Errno) step { return step{s, e} }

func TestStep(t *testing.T) {
	m := right()
	ok := api.OK
	for i, c := range []struct {
		x    api.Ins
		s    flow.Set
		want step
	}{
		{op(api.OpField, 4, 3), set(4), step{set(4), ok}}, {op(api.OpField, 4, 3), set(), step{0, api.ErrValid}}, {op(api.OpField, 4, 3), full &^ set(4), step{0, api.ErrValid}}, {op(api.OpField, 0, 2), full, step{full, ok}}, {op(api.OpField, 3, 1), set(0, 3, 63), step{set(0, 3, 63), ok}},
		{op(api.OpPutField, 5, 4), set(5, 6), step{set(5, 6), ok}}, {op(api.OpPutField, 5, 4), set(4, 6), step{0, api.ErrValid}}, {op(api.OpPutField), 0, step{0, api.ErrValid}}, {op(api.OpPutField), 1, step{1, ok}},
		{show(0), 0, step{1, ok}}, {show(6), set(1), step{set(1, 6), ok}}, {show(6), set(6), step{set(6), ok}}, {show(6), full, step{full, ok}},
		{hide(0), 1, step{0, ok}}, {hide(0), 0, step{0, ok}}, {hide(6), set(5, 6), step{set(5), ok}}, {hide(6), full, step{full &^ set(6), ok}},
		// Whether it was told there to be, or not, a slot is there behind a jump-gone that doesn't jump.
		{gone(4, 9), set(), step{set(4), ok}}, {gone(4, 9), set(4), step{set(4), ok}}, {gone(0, 0), set(1), step{set(0, 1), ok}}, {gone(6, 64), full, step{full, ok}},
		// tags are 1 to 3, odd is 5.
		{op(api.OpPushHead, 1, 1), set(1), step{set(2), ok}}, {op(api.OpPushHead, 1, 1), set(0, 1, 2, 4), step{set(0, 2, 3, 4), ok}}, {op(api.OpPushHead, 1, 1), set(3), step{set(), ok}}, {op(api.OpPushHead, 1, 2), set(1, 2, 3), step{set(3), ok}}, {op(api.OpPushHead, 1, 3), full, step{full &^ set(1, 2, 3), ok}}, {op(api.OpPushHead, 1, 4), full, step{full &^ set(1, 2, 3), ok}}, {op(api.OpPushHead, 3, 1), set(4, 5, 6), step{set(4, 6), ok}},
		{op(api.OpPopHead, 1, 1), set(3), step{set(2), ok}}, {op(api.OpPopHead, 1, 1), set(0, 2, 3, 4), step{set(0, 1, 2, 4), ok}}, {op(api.OpPopHead, 1, 1), set(1), step{set(), ok}}, {op(api.OpPopHead, 1, 2), set(1, 2, 3), step{set(1), ok}}, {op(api.OpPopHead, 1, 3), full, step{full &^ set(1, 2, 3), ok}}, {op(api.OpPopHead, 1, 4), full, step{full &^ set(1, 2, 3), ok}}, {op(api.OpPopHead, 3, 4), set(4, 5, 6), step{set(4, 6), ok}},
		{op(api.OpValid, 4), set(1), step{set(1), ok}}, {op(api.OpValid, 4), set(4), step{set(4), ok}},
		// What the image doesn't have is no fault here: a set tells of any slot, and what is no stack isn't moved.
		{op(api.OpField, 31, 15), set(31), step{set(31), ok}}, {op(api.OpField, 31, 15), set(30), step{0, api.ErrValid}}, {show(31), 0, step{set(31), ok}}, {hide(31), full, step{full &^ set(31), ok}}, {gone(31, 1), 0, step{set(31), ok}},
		{op(api.OpPushHead, 0, 1), full, step{full, ok}}, {op(api.OpPopHead, 15, 4), set(1), step{set(1), ok}}, {op(api.OpPushHead, 2, 4), set(4), step{set(4), ok}},
		{op(api.OpParam, 7), set(3), step{set(3), ok}}, {op(api.OpMeta, 23), set(3), step{set(3), ok}}, {op(api.OpMeter, 7), set(3), step{set(3), ok}},
	} {
		is(t, tellStep(flow.Step(m, c.x, c.s)), c.want, "Step", i, code.Text(c.x), c.s)
	}
}

// others are instructions that do nothing to a set, one of each operation.
func others() []api.Ins {
	return of(push(8), op(api.OpMeta, 1), op(api.OpParam, 7), op(api.OpValid, 3), op(api.OpReg, 1), op(api.OpNot), op(api.OpNeg), op(api.OpShl, 3), op(api.OpShr, 128), op(api.OpSlice, 7, 3), op(api.OpCast, 5), op(api.OpAdd), op(api.OpSub), op(api.OpAddSat), op(api.OpSubSat), op(api.OpAnd), op(api.OpOr), op(api.OpXor), op(api.OpCat), op(api.OpEq), op(api.OpLess), op(api.OpPutMeta, 1), op(api.OpPutReg, 1), op(api.OpCount, 2), op(api.OpMeter, 1), jump(64), zero(64), stop())
}

func TestStepOfOthers(t *testing.T) {
	is(t, len(others()), int(api.Ops)-7, "as many as do nothing")
	for _, x := range others() {
		for _, m := range []api.Image{right(), ground.LeastImage(), {}} {
			for _, s := range someSets() {
				is(t, tellStep(flow.Step(m, x, s)), step{s, api.OK}, "Step", code.Text(x), s)
			}
		}
	}
}

// Each instruction about slots, of each slot, with many sets, is held against the model.
func TestStepAsTheModel(t *testing.T) {
	for _, m := range []api.Image{right(), many()} {
		var l []api.Ins
		for slot := range 32 {
			l = append(l, get(slot), op(api.OpPutField, slot, 15), show(slot), hide(slot), gone(slot, 64))
		}
		for inst := range 16 {
			for n := 1; n <= 4; n++ {
				l = append(l, op(api.OpPushHead, inst, n), op(api.OpPopHead, inst, n))
			}
		}
		for _, x := range l {
			for _, s := range someSets() {
				want := modelStep(m, x, s)
				is(t, tellStep(flow.Step(m, x, s)), want, "Step", code.Text(x), s)
				if x.Op == api.OpPushHead {
					is(t, flow.Move(m, x.A, x.B, s), want.s, "Move", x.A, x.B, s)
				}
				if x.Op == api.OpPopHead {
					is(t, flow.Move(m, x.A, -x.B, s), want.s, "Move", x.A, -x.B, s)
				}
			}
		}
	}
}

// modelStep is what the model tells at the place behind one instruction; a jump leads elsewhere.
func modelStep(m api.Image, x api.Ins, s flow.Set) step {
	if x.Op == api.OpJumpGone {
		x.B = 2
	}
	k := modelOf(m, of(x, stop()), s)
	if isPlace(x) && k.gone(0, x.A) {
		return step{0, api.ErrValid}
	}
	return step{k.sure(1), api.OK}
}

// Promise 15.2: what may not be is told ahead of what isn't there, whatever the image.
func TestStepThatMayNotBe(t *testing.T) {
	for _, x := range mayNotBe() {
		if code.May(x) == api.OK {
			t.Fatal("may be:", x)
		}
		for _, m := range []api.Image{right(), many(), {}} {
			for _, s := range []flow.Set{0, full, 1} {
				is(t, tellStep(flow.Step(m, x, s)), step{0, api.ErrArg}, "Step", x, s)
			}
		}
	}
}

// mayNotBe are instructions that layer 9 refuses.
func mayNotBe() []api.Ins {
	return of(
		api.Ins{}, api.Ins{Op: -1}, api.Ins{Op: api.Ops}, api.Ins{Op: math.MaxInt}, api.Ins{V: api.Vec{W: 129}}, api.Ins{V: api.Vec{W: 8, Lo: 256}}, op(api.OpPush, 1),
		get(32), get(-1), get(math.MaxInt), get(math.MinInt), op(api.OpField, 0, 16), op(api.OpField, 0, -1), api.Ins{Op: api.OpField, V: api.Vec{W: 1}}, put(32), put(-1), op(api.OpPutField, 0, 16),
		show(32), show(-1), op(api.OpShow, 0, 1), hide(32), hide(-1), hide(64), op(api.OpHide, 0, 1), api.Ins{Op: api.OpHide, V: api.Vec{W: 1}}, op(api.OpValid, 32),
		op(api.OpPushHead, 1), op(api.OpPushHead, 1, 5), op(api.OpPushHead, 1, -1), op(api.OpPushHead, 16, 1), op(api.OpPushHead, -1, 1), op(api.OpPopHead, 1), op(api.OpPopHead, 1, 5), op(api.OpPopHead, 16, 1), op(api.OpPopHead, 1, math.MinInt),
		gone(32, 1), gone(-1, 1), gone(0, 65), gone(0, -1), jump(65), jump(-1), zero(65), op(api.OpJump, 1, 1), op(api.OpStop, 1), op(api.OpAdd, 0, 1), op(api.OpCast), op(api.OpSlice, 0, 1),
	)
}

// Step and Move ask nothing of the image but what a stack is.
func TestStepOfFlaws(t *testing.T) {
	m := api.Image{Insts: []api.Inst{{Header: 9, Depth: 2}, {Depth: 5}, {Header: -1, Depth: 3}, {Depth: -1}, {Depth: math.MinInt}, {}}}
	for i, c := range []struct {
		x    api.Ins
		s    flow.Set
		want step
	}{
		{get(5), set(5), step{set(5), api.OK}}, {get(5), set(4), step{0, api.ErrValid}}, {show(9), 0, step{set(9), api.OK}}, {gone(9, 1), 0, step{set(9), api.OK}},
		{op(api.OpPushHead, 0, 1), set(0, 2), step{set(1, 2), api.OK}}, {op(api.OpPopHead, 2, 1), set(1, 3, 4, 5), step{set(1, 2, 3, 5), api.OK}},
		{op(api.OpPushHead, 1, 1), full, step{full, api.OK}}, {op(api.OpPushHead, 3, 1), full, step{full, api.OK}}, {op(api.OpPushHead, 4, 1), full, step{full, api.OK}}, {op(api.OpPushHead, 5, 1), full, step{full, api.OK}}, {op(api.OpPushHead, 6, 1), full, step{full, api.OK}},
	} {
		is(t, tellStep(flow.Step(m, c.x, c.s)), c.want, "Step", i)
	}
}

// Promise 15.2: stacks that are moved. A stack of each depth lies between two others, each set of its slots is moved by each number, and the other slots stay as they are.
func TestMove(t *testing.T) {
	for depth := 1; depth <= 4; depth++ {
		m := api.Image{Insts: []api.Inst{{Depth: 2}, {Depth: depth}, {}}}
		for s := range flow.Set(1) << depth {
			for _, rest := range []flow.Set{0, full &^ ((1<<depth - 1) << 2)} {
				for n := -9; n <= 9; n++ {
					is(t, flow.Move(m, 1, n, s<<2|rest), moved(s, depth, n)<<2|rest, "Move", depth, n, s)
				}
				for _, n := range []int{4, 5, 63, 64, 1 << 32, 1<<32 + 1, math.MaxInt - 1, math.MaxInt} {
					is(t, flow.Move(m, 1, n, s<<2|rest), rest, "Move", depth, n, s)
					is(t, flow.Move(m, 1, -n, s<<2|rest), rest, "Move", depth, -n, s)
				}
				is(t, flow.Move(m, 1, math.MinInt, s<<2|rest), rest, "Move by the least number")
				is(t, flow.Move(m, 1, math.MinInt+4, s<<2|rest), rest, "Move by nearly the least number")
			}
		}
	}
}

// moved leans on what lies higher in a stack being a higher bit: a number that is cut to so many bits, and shifted.
func moved(s flow.Set, depth, n int) flow.Set {
	if n < 0 {
		return s >> -n
	}
	return s << n & (1<<depth - 1)
}

func TestMoveOfNoStack(t *testing.T) {
	m := api.Image{Insts: []api.Inst{{Depth: 0}, {Depth: 5}, {Depth: -1}, {Depth: math.MaxInt}, {Depth: math.MinInt}, {Depth: 1}}}
	for _, n := range []int{-5, -4, -1, 0, 1, 4, 5, math.MaxInt, math.MinInt} {
		for _, inst := range []int{0, 1, 2, 3, 4, 6, -1, 16, 64, math.MaxInt, math.MinInt} {
			for _, s := range someSets() {
				is(t, flow.Move(m, inst, n, s), s, "Move", inst, n, s)
			}
		}
		is(t, flow.Move(api.Image{}, 0, n, full), full, "Move of no instance")
	}
	is(t, flow.Move(m, 5, 1, full), full&^set(1), "Move of the stack behind them")
}

// Slots past the last one of a set are in none.
func TestMoveAtTheEndOfASet(t *testing.T) {
	m := api.Image{Insts: append(insts(62, 0), insts(2, 4)...)} // 62 to 65, and 66 to 69
	for _, c := range []struct {
		n       int
		s, want flow.Set
	}{{0, full, full}, {1, full, full &^ set(62)}, {1, set(62), set(63)}, {1, set(63), 0}, {2, full, full >> 2}, {-1, full, full &^ set(63)}, {-1, set(63), set(62)}, {-2, full, full >> 2}, {-1, set(61, 62), set(61)}} {
		is(t, flow.Move(m, 62, c.n, c.s), c.want, "Move", c.n, c.s)
		is(t, flow.Move(m, 63, c.n, c.s), c.s, "Move of a stack that lies behind", c.n, c.s)
	}
}

// What is handed in stays as it is.
func TestStepChangesNothing(t *testing.T) {
	m := right()
	for _, x := range append(mayNotBe(), show(0), op(api.OpPushHead, 1, 1), get(3)) {
		flow.Step(m, x, 5)
		flow.Move(m, x.A, x.B, 5)
	}
	is(t, image.Same(m, right()), true, "the image as it was")
	is(t, slices.Equal(m.Insts, right().Insts), true, "the instances as they were")
}
