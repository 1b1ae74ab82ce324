package image_test

import (
	"slices"
	"testing"

	"shunter/api"
	"shunter/image"
)

// Promise 10.2: why code may not be.

func TestCode(t *testing.T) {
	stop := api.Ins{Op: api.OpStop}
	jump := func(to int) api.Ins { return api.Ins{Op: api.OpJump, A: to} }
	gone := func(slot, to int) api.Ins { return api.Ins{Op: api.OpJumpGone, A: slot, B: to} }
	param := func(i int) api.Ins { return api.Ins{Op: api.OpParam, A: i} }
	of := func(l ...api.Ins) []api.Ins { return l }
	eight := []int{1, 2, 3, 4, 5, 6, 7, 8}
	for _, c := range []struct {
		m      api.Image
		params []int
		l      []api.Ins
		want   api.Errno
	}{
		{right(), nil, nil, api.OK}, {right(), []int{}, of(), api.OK}, {api.Image{}, nil, nil, api.OK}, {right(), nil, everyIns(), api.OK}, {right(), eight, everyIns(), api.OK}, {right(), nil, everyStop(64), api.OK},
		// Too many parameters, or instructions; a parameter's width isn't asked.
		{right(), eight, nil, api.OK}, {right(), make([]int, 8), nil, api.OK}, {right(), []int{0, -1, 129}, of(param(2)), api.OK}, {right(), make([]int, 9), nil, api.ErrLong}, {right(), make([]int, 9), of(api.Ins{Op: 35}), api.ErrLong}, {right(), nil, everyStop(65), api.ErrLong},
		// Layer 9's errors, ahead of all that is asked of the image.
		{right(), nil, of(api.Ins{Op: 35}), api.ErrKind}, {right(), nil, of(api.Ins{Op: -1}), api.ErrKind}, {right(), nil, of(api.Ins{Op: api.OpCast}), api.ErrRange}, {right(), nil, of(api.Ins{}), api.ErrArg}, {right(), nil, of(jump(0), api.Ins{Op: 35}), api.ErrKind}, {right(), nil, of(param(0), api.Ins{}), api.ErrArg}, {right(), nil, append(of(jump(0)), everyStop(64)...), api.ErrLong}, {right(), nil, append(of(jump(-1)), everyStop(64)...), api.ErrRange}, {right(), nil, append(everyStop(64), jump(-1)), api.ErrLong},
		// Parameters there are.
		{right(), nil, of(param(0)), api.ErrNone}, {right(), []int{8}, of(param(0)), api.OK}, {right(), []int{8}, of(param(1)), api.ErrNone}, {right(), eight, of(param(7)), api.OK}, {right(), eight[:7], of(param(7)), api.ErrNone},
		// Ways ahead alone.
		{right(), nil, of(jump(0)), api.ErrLoop}, {right(), nil, of(jump(1)), api.OK}, {right(), nil, of(jump(2)), api.ErrLoop}, {right(), nil, of(stop, jump(1)), api.ErrLoop}, {right(), nil, of(stop, jump(0)), api.ErrLoop}, {right(), nil, of(stop, jump(2), stop), api.OK}, {right(), nil, of(stop, jump(3), stop), api.OK}, {right(), nil, of(stop, jump(4), stop), api.ErrLoop}, {right(), nil, append(everyStop(63), jump(64)), api.OK}, {right(), nil, append(everyStop(63), jump(63)), api.ErrLoop}, {right(), nil, append(of(jump(64)), everyStop(63)...), api.OK}, {right(), nil, append(of(jump(64)), everyStop(62)...), api.ErrLoop},
		{right(), nil, of(api.Ins{Op: api.OpJumpZero}), api.ErrLoop}, {right(), nil, of(api.Ins{Op: api.OpJumpZero, A: 1}), api.OK}, {right(), nil, of(gone(6, 0)), api.ErrLoop}, {right(), nil, of(gone(6, 1)), api.OK}, {right(), nil, of(gone(6, 2)), api.ErrLoop}, {right(), nil, of(gone(7, 1)), api.ErrNone}, {right(), nil, of(gone(7, 0)), api.ErrNone},
		// Instruction by instruction.
		{right(), nil, of(jump(0), param(0)), api.ErrLoop}, {right(), nil, of(param(0), jump(0)), api.ErrNone}, {right(), nil, of(stop, gone(0, 1), gone(7, 0)), api.ErrLoop},
		// What an image without anything has: metadata.
		{least(), nil, of(api.Ins{Op: api.OpMeta, A: 7}, api.Ins{Op: api.OpPutMeta}), api.OK}, {least(), nil, of(api.Ins{Op: api.OpMeta, A: 8}), api.ErrNone}, {least(), nil, of(api.Ins{Op: api.OpField}), api.ErrNone}, {least(), nil, of(api.Ins{Op: api.OpValid}), api.ErrNone}, {least(), nil, of(gone(0, 1)), api.ErrNone}, {least(), nil, of(api.Ins{Op: api.OpReg}), api.ErrNone}, {least(), nil, of(api.Ins{Op: api.OpPutReg}), api.ErrNone}, {least(), nil, of(api.Ins{Op: api.OpCount}), api.ErrNone}, {least(), nil, of(api.Ins{Op: api.OpMeter}), api.ErrNone}, {least(), nil, of(api.Ins{Op: api.OpPushHead, B: 1}), api.ErrNone},
		// Of an image that isn't right what it tells: a slot is there, though it has no header.
		{odd(), nil, of(api.Ins{Op: api.OpValid, A: 1}), api.OK}, {odd(), nil, of(api.Ins{Op: api.OpField, A: 1}), api.ErrNone}, {odd(), nil, of(api.Ins{Op: api.OpField, A: 5, B: 4}), api.OK}, {odd(), nil, of(api.Ins{Op: api.OpValid, A: 6}), api.ErrNone}, {odd(), nil, of(api.Ins{Op: api.OpPopHead, A: 1, B: 1}), api.ErrNone}, {odd(), nil, of(api.Ins{Op: api.OpPopHead, A: 4, B: 4}), api.OK}, {odd(), nil, of(api.Ins{Op: api.OpMeta, A: 23}), api.OK},
	} {
		is(t, image.Code(c.m, c.params, c.l), c.want, "Code", c.params, c.l)
	}
}

// Promise 10.2: Code is what Check asks of an action's, and of a node's, code.
func TestCodeIsAsChecked(t *testing.T) {
	for op := api.Op(-1); op <= api.Ops; op++ {
		for a := -1; a <= 65; a++ {
			for _, b := range []int{-1, 0, 1, 2, 3, 4, 5, 15, 16, 17} {
				x := api.Ins{Op: op, A: a, B: b}
				if op == api.OpPush {
					x.V = vecOf(8, 3)
				}
				l := []api.Ins{{Op: api.OpStop}, {Op: api.OpStop}, x, {Op: api.OpStop}}
				m := right()
				m.Actions[1].Code = slices.Clone(l)
				want := firstFlaw(m)
				is(t, image.Code(m, []int{8, 128}, l), want.e, "Code", l)
				if want != (found{}) {
					is(t, want, found{5, 1, want.e}, "the model of", l)
				}
				m = right()
				m.Ingress[1].Code = slices.Clone(l)
				is(t, image.Code(m, nil, l), firstFlaw(m).e, "Code", l)
			}
		}
	}
}
