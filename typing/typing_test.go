package typing_test

import (
	"math"
	"slices"
	"testing"

	"shunter/api"
	"shunter/code"
	"shunter/ground"
	"shunter/image"
	"shunter/typing"
)

// Promise 14.1: what an instruction does to the stack.

// edges are widths at which what is asked of them changes for right's things.
func edges() []int { return []int{1, 2, 3, 4, 7, 8, 9, 12, 15, 16, 17, 48, 63, 64, 65, 127, 128} }

func TestEachInstruction(t *testing.T) {
	eight := []int{1, 2, 3, 4, 5, 6, 7, 128}
	ok, few, wide := api.OK, api.ErrStack, api.ErrWidth
	for _, c := range []struct {
		ahead  []int
		x      api.Ins
		behind []int
		e      api.Errno
	}{
		{nil, push(1), []int{1}, ok}, {nil, push(128), []int{128}, ok}, {[]int{5, 6}, push(7), []int{5, 6, 7}, ok}, {nil, api.Ins{V: api.Vec{W: 9}}, []int{9}, ok},
		{nil, op(api.OpField, 0, 0), []int{48}, ok}, {nil, op(api.OpField, 3, 2), []int{12}, ok}, {[]int{1}, op(api.OpField, 5, 3), []int{1, 128}, ok}, {nil, op(api.OpField, 6, 3), []int{16}, ok},
		{nil, op(api.OpMeta, 0), []int{8}, ok}, {nil, op(api.OpMeta, 3), []int{1}, ok}, {nil, op(api.OpMeta, 6), []int{16}, ok}, {nil, op(api.OpMeta, 7), []int{8}, ok}, {nil, op(api.OpMeta, 9), []int{128}, ok}, {nil, op(api.OpMeta, 10), []int{1}, ok},
		{nil, op(api.OpParam, 0), []int{1}, ok}, {nil, op(api.OpParam, 6), []int{7}, ok}, {nil, op(api.OpParam, 7), []int{128}, ok},
		{nil, op(api.OpValid, 6), []int{1}, ok}, {[]int{9}, op(api.OpValid, 0), []int{9, 1}, ok},

		{[]int{1}, op(api.OpReg, 0), []int{1}, ok}, {[]int{8}, op(api.OpReg, 1), []int{128}, ok}, {[]int{5, 8}, op(api.OpReg, 1), []int{5, 128}, ok}, {nil, op(api.OpReg, 1), nil, few}, {[]int{128}, op(api.OpReg, 1), nil, wide}, {[]int{7}, op(api.OpReg, 1), nil, wide}, {[]int{9}, op(api.OpReg, 1), nil, wide}, {[]int{8, 5}, op(api.OpReg, 1), nil, wide},
		{[]int{8, 128}, op(api.OpPutReg, 1), nil, ok}, {[]int{128, 8}, op(api.OpPutReg, 1), nil, wide}, {[]int{3, 8, 128}, op(api.OpPutReg, 1), []int{3}, ok}, {[]int{128}, op(api.OpPutReg, 1), nil, few}, {nil, op(api.OpPutReg, 1), nil, few}, {[]int{8, 127}, op(api.OpPutReg, 1), nil, wide}, {[]int{7, 128}, op(api.OpPutReg, 1), nil, wide}, {[]int{1, 1}, op(api.OpPutReg, 0), nil, ok}, {[]int{1, 2}, op(api.OpPutReg, 0), nil, wide},

		{[]int{5}, op(api.OpNot), []int{5}, ok}, {[]int{5, 128}, op(api.OpNeg), []int{5, 128}, ok}, {[]int{5}, op(api.OpShl, 128), []int{5}, ok}, {[]int{5}, op(api.OpShr, 0), []int{5}, ok}, {[]int{1}, op(api.OpShr, 2), []int{1}, ok},
		{nil, op(api.OpNot), nil, few}, {nil, op(api.OpNeg), nil, few}, {nil, op(api.OpShl, 1), nil, few}, {nil, op(api.OpShr, 1), nil, few},
		{[]int{8}, op(api.OpSlice, 7, 0), []int{8}, ok}, {[]int{8}, op(api.OpSlice, 7, 7), []int{1}, ok}, {[]int{8}, op(api.OpSlice, 8, 7), nil, wide}, {[]int{7}, op(api.OpSlice, 7, 0), nil, wide}, {[]int{7}, op(api.OpSlice, 7, 7), nil, wide}, {[]int{128}, op(api.OpSlice, 127, 0), []int{128}, ok}, {[]int{127}, op(api.OpSlice, 127, 127), nil, wide}, {[]int{1}, op(api.OpSlice), []int{1}, ok}, {[]int{4, 16}, op(api.OpSlice, 9, 4), []int{4, 6}, ok}, {nil, op(api.OpSlice), nil, few},
		{[]int{1}, op(api.OpCast, 128), []int{128}, ok}, {[]int{128}, op(api.OpCast, 1), []int{1}, ok}, {[]int{2, 8}, op(api.OpCast, 8), []int{2, 8}, ok}, {nil, op(api.OpCast, 8), nil, few},

		{[]int{8, 8}, op(api.OpAdd), []int{8}, ok}, {[]int{8, 9}, op(api.OpAdd), nil, wide}, {[]int{9, 8}, op(api.OpSub), nil, wide}, {[]int{128, 128}, op(api.OpSub), []int{128}, ok}, {[]int{3, 1, 1}, op(api.OpAddSat), []int{3, 1}, ok}, {[]int{3, 1}, op(api.OpAddSat), nil, wide}, {[]int{7, 7}, op(api.OpSubSat), []int{7}, ok}, {[]int{7, 8}, op(api.OpSubSat), nil, wide}, {[]int{7, 7}, op(api.OpAnd), []int{7}, ok}, {[]int{7, 6}, op(api.OpAnd), nil, wide}, {[]int{7, 7}, op(api.OpOr), []int{7}, ok}, {[]int{6, 7}, op(api.OpOr), nil, wide}, {[]int{7, 7}, op(api.OpXor), []int{7}, ok}, {[]int{1, 7}, op(api.OpXor), nil, wide},
		{[]int{8}, op(api.OpAdd), nil, few}, {nil, op(api.OpAdd), nil, few}, {[]int{8}, op(api.OpXor), nil, few}, {[]int{8}, op(api.OpCat), nil, few}, {[]int{8}, op(api.OpEq), nil, few}, {nil, op(api.OpLess), nil, few},
		{[]int{64, 64}, op(api.OpCat), []int{128}, ok}, {[]int{64, 65}, op(api.OpCat), nil, wide}, {[]int{1, 127}, op(api.OpCat), []int{128}, ok}, {[]int{127, 1}, op(api.OpCat), []int{128}, ok}, {[]int{128, 1}, op(api.OpCat), nil, wide}, {[]int{128, 128}, op(api.OpCat), nil, wide}, {[]int{9, 3, 5}, op(api.OpCat), []int{9, 8}, ok},
		{[]int{128, 128}, op(api.OpEq), []int{1}, ok}, {[]int{8, 7}, op(api.OpEq), nil, wide}, {[]int{2, 5, 5}, op(api.OpLess), []int{2, 1}, ok}, {[]int{2, 5}, op(api.OpLess), nil, wide},

		{[]int{48}, op(api.OpPutField, 0, 1), nil, ok}, {[]int{47}, op(api.OpPutField, 0, 1), nil, wide}, {nil, op(api.OpPutField, 0, 1), nil, few}, {[]int{8, 128}, op(api.OpPutField, 5, 3), []int{8}, ok}, {[]int{128, 8}, op(api.OpPutField, 5, 3), nil, wide}, {[]int{3}, op(api.OpPutField, 2, 0), nil, ok},
		{[]int{8}, op(api.OpPutMeta, 1), nil, ok}, {[]int{8}, op(api.OpPutMeta, 2), nil, ok}, {[]int{1}, op(api.OpPutMeta, 3), nil, ok}, {[]int{8}, op(api.OpPutMeta, 4), nil, ok}, {[]int{1}, op(api.OpPutMeta, 5), nil, ok}, {[]int{8}, op(api.OpPutMeta, 8), nil, ok}, {[]int{1, 128}, op(api.OpPutMeta, 9), []int{1}, ok}, {[]int{8}, op(api.OpPutMeta, 9), nil, wide}, {[]int{7}, op(api.OpPutMeta, 1), nil, wide}, {[]int{8}, op(api.OpPutMeta, 3), nil, wide}, {[]int{1}, op(api.OpPutMeta, 10), nil, ok}, {nil, op(api.OpPutMeta, 10), nil, few},
		{[]int{8}, op(api.OpPutMeta, 0), nil, api.ErrKind}, {[]int{16}, op(api.OpPutMeta, 6), nil, api.ErrKind}, {[]int{8}, op(api.OpPutMeta, 7), nil, api.ErrKind},
		{[]int{1}, op(api.OpCount, 0), nil, ok}, {[]int{8}, op(api.OpCount, 1), nil, ok}, {[]int{8, 4}, op(api.OpCount, 2), []int{8}, ok}, {[]int{8}, op(api.OpCount, 2), nil, wide}, {nil, op(api.OpCount, 2), nil, few},
		{[]int{1}, op(api.OpMeter, 0), []int{1}, ok}, {[]int{8}, op(api.OpMeter, 1), []int{1}, ok}, {[]int{2, 8}, op(api.OpMeter, 1), []int{2, 1}, ok}, {[]int{1}, op(api.OpMeter, 1), nil, wide}, {nil, op(api.OpMeter, 1), nil, few},

		{eight, op(api.OpShow, 6), eight, ok}, {nil, op(api.OpHide, 0), nil, ok}, {[]int{3}, op(api.OpPushHead, 1, 4), []int{3}, ok}, {eight, op(api.OpPopHead, 3, 1), eight, ok},
		{eight, op(api.OpJump, 9), eight, ok}, {[]int{8, 1}, op(api.OpJumpZero, 3), []int{8}, ok}, {[]int{1, 8}, op(api.OpJumpZero, 3), nil, wide}, {nil, op(api.OpJumpZero, 1), nil, few}, {[]int{4}, op(api.OpJumpGone, 0, 2), []int{4}, ok},
		// More than 8 values.
		{eight, push(1), nil, few}, {eight, op(api.OpField), nil, few}, {eight, op(api.OpMeta), nil, few}, {eight, op(api.OpParam), nil, few}, {eight, op(api.OpValid), nil, few}, {eight[:7], push(9), []int{1, 2, 3, 4, 5, 6, 7, 9}, ok}, {eight, op(api.OpNot), eight, ok}, {eight, op(api.OpSlice, 127, 0), eight, ok}, {eight, op(api.OpCat), nil, wide},
	} {
		l := append(pushes(c.ahead...), c.x)
		var want [][]int
		for i := range l {
			want = append(want, slices.Clone(c.ahead[:i]))
		}
		if c.e != ok {
			is(t, tell(typing.Code(right(), eight, l, c.behind)), told{nil, len(c.ahead), c.e}, texts(l))
			continue
		}
		is(t, tell(typing.Code(right(), eight, l, c.behind)), tell(append(want, c.behind), 0, ok), texts(l))
		is(t, tell(typing.Code(right(), eight, l, append(slices.Clone(c.behind), 1))), told{nil, len(l), few}, "wanted one more:", texts(l))
	}
}

// Each instruction that right has is held against the model on stacks of none, one, two and three widths.
func TestEachInstructionAsTheModel(t *testing.T) {
	m := right()
	params := []int{1, 2, 3, 4, 5, 6, 7, 128}
	x := modelOf(m, params)
	counts := map[api.Errno]int{}
	ask := func(in api.Ins, ahead ...int) {
		l := append(pushes(ahead...), in)
		want, e := x.behind(in, ahead)
		counts[e]++
		expect := x.code(l, want)
		is(t, tell(typing.Code(m, params, l, want)), expect, texts(l))
		is(t, expect.e, e, texts(l))
	}
	for _, in := range someOf(m, params) {
		ask(in)
		for _, a := range edges() {
			ask(in, a)
			for _, b := range edges() {
				if takes, _ := code.Effect(in.Op); takes == 2 {
					ask(in, a, b)
				}
			}
		}
		ask(in, 8, 1, 8)
	}
	for _, e := range []api.Errno{api.OK, api.ErrStack, api.ErrKind, api.ErrWidth} {
		if counts[e] < 30 {
			t.Errorf("only %d asked with %d", counts[e], e)
		}
	}
}

// Promise 14.1: the order of what is wrong.

func TestFirstFault(t *testing.T) {
	nine := append(pushes(1, 1, 1, 1, 1, 1, 1, 1), push(1))
	for _, c := range []struct {
		l    []api.Ins
		want []int
		at   int
		e    api.Errno
	}{
		// Too few values come ahead of what may not be written, and that ahead of the width.
		{of(op(api.OpPutMeta, 0)), nil, 0, api.ErrStack},
		{of(push(3), op(api.OpPutMeta, 0)), nil, 1, api.ErrKind},
		{of(push(3), op(api.OpPutMeta, 6)), []int{3}, 1, api.ErrKind},
		{of(push(3), op(api.OpPutMeta, 7)), nil, 1, api.ErrKind},
		{of(push(3), op(api.OpPutMeta, 1)), nil, 1, api.ErrWidth},
		// The width comes ahead of another stack where it leads.
		{of(push(1), push(1), op(api.OpJumpZero, 6), push(3), push(2), op(api.OpJumpZero, 6)), []int{1}, 5, api.ErrWidth},
		{of(push(1), push(1), op(api.OpJumpZero, 6), push(3), push(1), op(api.OpJumpZero, 6)), []int{1}, 5, api.ErrStack},
		// Places come in their order, whatever is wrong there.
		{of(op(api.OpAdd), push(3), op(api.OpPutMeta, 0)), nil, 0, api.ErrStack},
		{of(push(3), op(api.OpPutMeta, 0), op(api.OpAdd)), nil, 1, api.ErrKind},
		{of(push(2), op(api.OpStop), op(api.OpAdd)), nil, 1, api.ErrStack},
		{of(push(2), op(api.OpPutMeta, 1), push(2)), nil, 1, api.ErrWidth},
		{append(nine, op(api.OpPutMeta, 0)), nil, 8, api.ErrStack},
		{nine, nil, 8, api.ErrStack},
		{nine[:8], nil, 8, api.ErrStack},
		// What comes behind a jump and isn't reached is of no matter; what is jumped to is.
		{of(op(api.OpJump, 2), op(api.OpAdd), push(2), op(api.OpPutMeta, 7)), nil, 3, api.ErrKind},
		{of(op(api.OpJump, 1), op(api.OpAdd)), nil, 1, api.ErrStack},
		{of(op(api.OpJumpGone, 0, 2), op(api.OpAdd), op(api.OpSub)), nil, 1, api.ErrStack},
		{of(op(api.OpJumpGone, 0, 2), op(api.OpStop), op(api.OpSub)), nil, 2, api.ErrStack},
	} {
		is(t, tell(typing.Code(right(), nil, c.l, c.want)), told{nil, c.at, c.e}, texts(c.l), "want", c.want)
	}
}

// Promise 14.1: ways that meet have one stack, and that is told of the instruction that comes with another one.
func TestWaysMeet(t *testing.T) {
	gone := func(to int) api.Ins { return op(api.OpJumpGone, 0, to) }
	jump := func(to int) api.Ins { return op(api.OpJump, to) }
	zero := func(to int) api.Ins { return op(api.OpJumpZero, to) }
	stop := op(api.OpStop)
	none := [][]int(nil)
	for _, c := range []struct {
		l      []api.Ins
		want   []int
		stacks [][]int
		at     int
		e      api.Errno
	}{
		{of(gone(3), push(8), jump(4), push(8)), []int{8}, [][]int{nil, nil, {8}, nil, {8}}, 0, api.OK},
		{of(gone(3), push(8), jump(4), push(9)), []int{8}, none, 3, api.ErrStack},
		{of(gone(3), push(8), jump(4), push(9)), []int{9}, none, 3, api.ErrStack},
		{of(gone(2), push(8)), []int{8}, none, 1, api.ErrStack},
		{of(gone(2), push(8)), nil, none, 1, api.ErrStack},
		{of(gone(1)), nil, [][]int{nil, nil}, 0, api.OK},
		{of(push(1), zero(2)), nil, [][]int{nil, {1}, nil}, 0, api.OK},
		{of(push(1), zero(3), push(8)), nil, none, 2, api.ErrStack},
		{of(push(8), push(1), zero(4), op(api.OpNot)), []int{8}, [][]int{nil, {8}, {8, 1}, {8}, {8}}, 0, api.OK},
		{of(push(8), push(1), zero(4), op(api.OpCast, 7)), []int{8}, none, 3, api.ErrStack},
		{of(push(8), push(1), zero(5), push(8), op(api.OpAdd)), []int{8}, [][]int{nil, {8}, {8, 1}, {8}, {8, 8}, {8}}, 0, api.OK},
		// The same widths in another order, and one of them more.
		{of(gone(4), push(8), push(9), jump(6), push(9), push(8)), []int{8, 9}, none, 5, api.ErrStack},
		{of(gone(4), push(8), push(9), jump(6), push(8), push(9)), []int{8, 9}, [][]int{nil, nil, {8}, {8, 9}, nil, {8}, {8, 9}}, 0, api.OK},
		{of(gone(4), push(8), push(8), jump(5), push(8)), []int{8}, none, 4, api.ErrStack},
		// A jump that leads where another stack is; behind one that leads to two such places the one is enough.
		{of(push(1), gone(4), op(api.OpPutMeta, 3), jump(4)), []int{1}, none, 3, api.ErrStack},
		{of(push(1), gone(5), push(1), push(1), zero(5)), []int{1}, none, 4, api.ErrStack},
		// Where code ends at several stops, and at the end.
		{of(gone(3), push(1), stop, push(1), stop), []int{1}, [][]int{nil, nil, {1}, nil, {1}, nil}, 0, api.OK},
		{of(gone(3), push(1), stop, push(2), stop), []int{1}, none, 4, api.ErrStack},
		{of(gone(3), push(2), stop, push(1), stop), []int{1}, none, 2, api.ErrStack},
		{of(gone(3), push(1), stop, push(1)), []int{1}, [][]int{nil, nil, {1}, nil, {1}}, 0, api.OK},
		{of(gone(3), push(1), stop, push(2)), []int{1}, none, 4, api.ErrStack},
		{of(stop, op(api.OpAdd)), nil, make([][]int, 3), 0, api.OK},
		{of(stop), []int{1}, none, 0, api.ErrStack},
		{of(jump(3), push(1), op(api.OpAdd)), nil, make([][]int, 4), 0, api.OK},
		{of(jump(3), push(1), op(api.OpAdd)), []int{1}, none, 3, api.ErrStack},
		// What isn't reached leads nowhere.
		{of(jump(3), push(1), jump(3), push(2)), []int{2}, [][]int{nil, nil, nil, nil, {2}}, 0, api.OK},
		{of(stop, gone(3), push(1)), nil, make([][]int, 4), 0, api.OK},
	} {
		is(t, tell(typing.Code(right(), nil, c.l, c.want)), told{c.stacks, c.at, c.e}, texts(c.l), "want", c.want)
	}
}

// Promise 14.1: the stack that is wanted.
func TestWanted(t *testing.T) {
	for _, l := range [][]api.Ins{nil, of(), stops(1), stops(64), of(op(api.OpJump, 1)), of(op(api.OpShow))} {
		for _, want := range [][]int{nil, {}} {
			is(t, tell(typing.Code(right(), nil, l, want)), told{make([][]int, len(l)+1), 0, api.OK}, texts(l))
		}
		at := len(l)
		if len(l) > 0 && l[0].Op == api.OpStop {
			at = 0
		}
		for _, want := range [][]int{{0}, {1}, {8}, {-1}, {math.MaxInt}, {8, 8}, make([]int, 8), make([]int, 9), make([]int, 100000)} {
			is(t, tell(typing.Code(right(), nil, l, want)), told{nil, at, api.ErrStack}, texts(l), len(want))
		}
	}
	l := pushes(8, 9)
	for _, want := range [][]int{nil, {8}, {9}, {9, 8}, {8, 8}, {9, 9}, {8, 9, 0}, {8, 9, 8, 9}, {0, 8, 9}, {8, 9, 0, 0, 0, 0, 0, 0}} {
		is(t, tell(typing.Code(right(), nil, l, want)), told{nil, 2, api.ErrStack}, want)
	}
	is(t, tell(typing.Code(right(), nil, l, []int{8, 9})), told{[][]int{nil, {8}, {8, 9}}, 0, api.OK}, "as wanted")
	full := []int{128, 1, 128, 1, 128, 1, 128, 1}
	got := tell(typing.Code(right(), nil, pushes(full...), full))
	is(t, got.e, api.OK, "a full stack")
	is(t, got.stacks[8], full, "a full stack")
}

// As much code as there may be.
func TestLongCode(t *testing.T) {
	var l []api.Ins
	for i := range 64 {
		l = append(l, push(8))
		if i%2 == 1 {
			l[i] = op(api.OpPutMeta, 1)
		}
	}
	got := tell(typing.Code(right(), nil, l, nil))
	if len(got.stacks) != 65 || got.e != api.OK || got.stacks[64] != nil || !slices.Equal(got.stacks[63], []int{8}) {
		t.Error("64 instructions:", got)
	}
	is(t, tell(typing.Code(right(), nil, append(l, push(8)), nil)), told{e: api.ErrArg}, "65 instructions")
	l[63] = op(api.OpPutMeta, 0)
	is(t, tell(typing.Code(right(), nil, l, nil)), told{nil, 63, api.ErrKind}, "wrong at the last one")
	l[63] = push(8)
	is(t, tell(typing.Code(right(), nil, l, nil)), told{nil, 64, api.ErrStack}, "wrong at the end")
}

// Promise 14.1: what is refused as a whole, ahead of all that is wrong in it.

func TestCodeOfNoRightImage(t *testing.T) {
	for i, in := range ground.Flaws() {
		m := ground.Changed(in)
		if image.Check(m) == nil {
			t.Fatal("no flaw:", i)
		}
		for _, l := range [][]api.Ins{nil, of(push(8)), of(op(api.OpAdd)), of(op(api.OpJump, 0))} {
			is(t, tell(typing.Code(m, nil, l, nil)), told{e: api.ErrArg}, "the flaw", i, texts(l))
		}
	}
	is(t, tell(typing.Code(api.Image{}, nil, nil, nil)), told{e: api.ErrArg}, "a zero image")
}

func TestParameters(t *testing.T) {
	for _, w := range []int{0, -1, 129, 256, math.MinInt, math.MaxInt, 1<<32 + 8} {
		for at := range 8 {
			params := []int{1, 2, 3, 4, 5, 6, 7, 128}
			params[at] = w
			for _, l := range [][]api.Ins{nil, of(op(api.OpParam, at)), of(op(api.OpAdd)), of(op(api.OpParam, (at+1)%8))} {
				is(t, tell(typing.Code(right(), params, l, nil)), told{e: api.ErrArg}, params, texts(l))
			}
		}
		is(t, tell(typing.Code(right(), []int{w}, nil, nil)), told{e: api.ErrArg}, w)
	}
	for w := 1; w <= 128; w++ {
		is(t, tell(typing.Code(right(), []int{w}, of(op(api.OpParam)), []int{w})), told{[][]int{nil, {w}}, 0, api.OK}, w)
	}
	eight := []int{1, 2, 3, 4, 5, 6, 7, 8}
	is(t, tell(typing.Code(right(), eight, nil, nil)).e, api.OK, "eight")
	is(t, tell(typing.Code(right(), append(eight, 9), nil, nil)), told{e: api.ErrArg}, "nine")
	is(t, tell(typing.Code(right(), slices.Repeat(eight, 1000), nil, nil)), told{e: api.ErrArg}, "many")
	is(t, tell(typing.Code(right(), eight[:7], of(op(api.OpParam, 7)), nil)), told{e: api.ErrArg}, "none such")
	is(t, tell(typing.Code(right(), nil, of(op(api.OpParam)), nil)), told{e: api.ErrArg}, "none")
	is(t, tell(typing.Code(right(), []int{}, nil, nil)), told{make([][]int, 1), 0, api.OK}, "none")
}

// Whatever layer 10's Code refuses, also where it isn't reached, and behind what is wrong.
func TestCodeThatMayNotBe(t *testing.T) {
	for _, x := range []api.Ins{
		{}, {Op: -1}, {Op: api.Ops}, {Op: math.MaxInt}, {V: vecOf(129, 0)}, {V: vecOf(8, 256)}, op(api.OpPush, 1), op(api.OpCast), op(api.OpCast, 129), op(api.OpShl, 129), op(api.OpSlice, 7, 8), op(api.OpSlice, 128), op(api.OpStop, 1), op(api.OpAdd, 0, 1), {Op: api.OpStop, V: vecOf(1, 0)},
		op(api.OpField, 7), op(api.OpField, 4, 4), op(api.OpPutField, 0, 3), op(api.OpMeta, 11), op(api.OpPutMeta, 11), op(api.OpPutMeta, -1), op(api.OpParam), op(api.OpValid, 7), op(api.OpShow, 7), op(api.OpHide, 32), op(api.OpReg, 2), op(api.OpPutReg, 2), op(api.OpCount, 3), op(api.OpMeter, 2), op(api.OpPushHead, 0, 1), op(api.OpPopHead, 1, 5),
		op(api.OpJump, 0), op(api.OpJump, 2), op(api.OpJump, 5), op(api.OpJumpZero, 2), op(api.OpJumpGone, 7, 4), op(api.OpJumpGone, 0, 2), op(api.OpJumpGone, 0, 5),
	} {
		for _, l := range [][]api.Ins{of(push(8), push(8), x, op(api.OpNot)), of(op(api.OpStop), op(api.OpStop), x, op(api.OpStop)), of(op(api.OpAdd), op(api.OpAdd), x, op(api.OpStop))} {
			if image.Code(right(), nil, l) == api.OK {
				t.Fatal("may be:", texts(l))
			}
			is(t, tell(typing.Code(right(), nil, l, nil)), told{e: api.ErrArg}, texts(l))
		}
	}
	is(t, tell(typing.Code(right(), nil, stops(65), nil)), told{e: api.ErrArg}, "65 stops")
	is(t, tell(typing.Code(right(), nil, stops(5000), nil)), told{e: api.ErrArg}, "5000 stops")
	is(t, tell(typing.Code(ground.LeastImage(), nil, of(op(api.OpReg)), nil)), told{e: api.ErrArg}, "no register")
	is(t, tell(typing.Code(ground.LeastImage(), nil, of(op(api.OpMeta, 8)), nil)), told{e: api.ErrArg}, "no such metadata")
}

func TestExamples(t *testing.T) {
	l := of(push(8), api.Ins{V: vecOf(8, 2)}, op(api.OpAdd), op(api.OpPutMeta, 1))
	is(t, tell(typing.Code(ground.LeastImage(), nil, l, nil)), told{[][]int{nil, {8}, {8, 8}, {8}, nil}, 0, api.OK}, texts(l))
	l[1].V.W = 9
	is(t, tell(typing.Code(ground.LeastImage(), nil, l, nil)), told{nil, 2, api.ErrWidth}, texts(l))
}
