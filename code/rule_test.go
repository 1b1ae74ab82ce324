package code_test

import (
	"math"
	"testing"

	"shunter/api"
	"shunter/code"
)

// Promise 9.1: which instructions may be.

func TestMay(t *testing.T) {
	eachIns(func(x api.Ins) {
		if got, want := code.May(x), may(x); got != want {
			t.Errorf("May(%v) = %d; want %d", x, got, want)
		}
	})
}

func TestMayEdges(t *testing.T) {
	one := api.Vec{W: 1, Lo: 1}
	wide := api.Vec{W: 1, Lo: 2}
	for _, c := range []struct {
		x    api.Ins
		want api.Errno
	}{
		{api.Ins{}, api.ErrArg}, {api.Ins{V: one}, api.OK}, {api.Ins{V: api.Vec{W: 128, Hi: math.MaxUint64, Lo: math.MaxUint64}}, api.OK}, {api.Ins{V: wide}, api.ErrArg}, {api.Ins{V: api.Vec{W: 129}}, api.ErrArg}, {api.Ins{A: 1, V: one}, api.ErrRange}, {api.Ins{B: 1, V: one}, api.ErrRange}, {api.Ins{B: -1, V: wide}, api.ErrRange},
		{api.Ins{Op: -1}, api.ErrKind}, {api.Ins{Op: api.Ops}, api.ErrKind}, {api.Ins{Op: api.Ops, A: -1, V: wide}, api.ErrKind}, {api.Ins{Op: math.MinInt, B: 70}, api.ErrKind},
		{api.Ins{Op: api.OpField, A: 31, B: 15}, api.OK}, {api.Ins{Op: api.OpField, A: 32}, api.ErrRange}, {api.Ins{Op: api.OpField, B: 16}, api.ErrRange}, {api.Ins{Op: api.OpPutField, A: -1}, api.ErrRange}, {api.Ins{Op: api.OpPutField, B: -1}, api.ErrRange}, {api.Ins{Op: api.OpPutField, V: one}, api.ErrArg}, {api.Ins{Op: api.OpPutField, A: 32, V: one}, api.ErrRange},
		{api.Ins{Op: api.OpMeta, A: 23}, api.OK}, {api.Ins{Op: api.OpMeta, A: 24}, api.ErrRange}, {api.Ins{Op: api.OpMeta, B: 1}, api.ErrRange}, {api.Ins{Op: api.OpPutMeta, A: 23}, api.OK}, {api.Ins{Op: api.OpPutMeta, A: 24}, api.ErrRange}, {api.Ins{Op: api.OpPutMeta}, api.OK},
		{api.Ins{Op: api.OpParam, A: 7}, api.OK}, {api.Ins{Op: api.OpParam, A: 8}, api.ErrRange}, {api.Ins{Op: api.OpReg, A: 7}, api.OK}, {api.Ins{Op: api.OpPutReg, A: 8}, api.ErrRange}, {api.Ins{Op: api.OpCount, A: 8}, api.ErrRange}, {api.Ins{Op: api.OpMeter, A: 8}, api.ErrRange}, {api.Ins{Op: api.OpMeter, A: 7}, api.OK},
		{api.Ins{Op: api.OpValid, A: 31}, api.OK}, {api.Ins{Op: api.OpValid, A: 32}, api.ErrRange}, {api.Ins{Op: api.OpShow, A: 32}, api.ErrRange}, {api.Ins{Op: api.OpHide, A: 32}, api.ErrRange}, {api.Ins{Op: api.OpHide, A: 3, B: 1}, api.ErrRange},
		{api.Ins{Op: api.OpNot}, api.OK}, {api.Ins{Op: api.OpNot, A: 1}, api.ErrRange}, {api.Ins{Op: api.OpNeg, A: 8}, api.ErrRange}, {api.Ins{Op: api.OpShl}, api.OK}, {api.Ins{Op: api.OpShl, A: 128}, api.OK}, {api.Ins{Op: api.OpShl, A: 129}, api.ErrRange}, {api.Ins{Op: api.OpShr, A: -1}, api.ErrRange}, {api.Ins{Op: api.OpCast}, api.ErrRange}, {api.Ins{Op: api.OpCast, A: 1}, api.OK}, {api.Ins{Op: api.OpCast, A: 128}, api.OK}, {api.Ins{Op: api.OpCast, A: 129}, api.ErrRange},
		{api.Ins{Op: api.OpSlice}, api.OK}, {api.Ins{Op: api.OpSlice, A: 127, B: 127}, api.OK}, {api.Ins{Op: api.OpSlice, A: 7, B: 8}, api.ErrRange}, {api.Ins{Op: api.OpSlice, A: 128}, api.ErrRange}, {api.Ins{Op: api.OpSlice, A: 7, B: -1}, api.ErrRange}, {api.Ins{Op: api.OpSlice, A: -1, B: -1}, api.ErrRange},
		{api.Ins{Op: api.OpAdd}, api.OK}, {api.Ins{Op: api.OpAdd, A: 1}, api.ErrRange}, {api.Ins{Op: api.OpLess, B: 1}, api.ErrRange}, {api.Ins{Op: api.OpXor, V: one}, api.ErrArg}, {api.Ins{Op: api.OpXor, V: wide}, api.ErrArg},
		{api.Ins{Op: api.OpPushHead, A: 15, B: 4}, api.OK}, {api.Ins{Op: api.OpPushHead, A: 15}, api.ErrRange}, {api.Ins{Op: api.OpPushHead, A: 16, B: 1}, api.ErrRange}, {api.Ins{Op: api.OpPopHead, B: 5}, api.ErrRange}, {api.Ins{Op: api.OpPopHead, B: 1}, api.OK},
		{api.Ins{Op: api.OpJump, A: 64}, api.OK}, {api.Ins{Op: api.OpJump, A: 65}, api.ErrRange}, {api.Ins{Op: api.OpJumpZero, A: 64}, api.OK}, {api.Ins{Op: api.OpJumpZero, A: -1}, api.ErrRange}, {api.Ins{Op: api.OpJumpGone, A: 31, B: 64}, api.OK}, {api.Ins{Op: api.OpJumpGone, A: 32}, api.ErrRange}, {api.Ins{Op: api.OpJumpGone, B: 65}, api.ErrRange},
		{api.Ins{Op: api.OpStop}, api.OK}, {api.Ins{Op: api.OpStop, A: 1}, api.ErrRange}, {api.Ins{Op: api.OpStop, V: one}, api.ErrArg}, {api.Ins{Op: api.OpStop, V: api.Vec{Hi: 1}}, api.ErrArg},
	} {
		is(t, code.May(c.x), c.want, "May", c.x)
	}
}

// Promise 9.2: what operations take, and put.

func TestEffect(t *testing.T) {
	for o, r := range table() {
		takes, puts := code.Effect(api.Op(o))
		is(t, []int{takes, puts}, []int{r.takes, r.puts}, "Effect", r.name)
	}
	for _, o := range noOps() {
		takes, puts := code.Effect(o)
		is(t, []int{takes, puts}, []int{0, 0}, "Effect", o)
	}
	is(t, len(table()), int(api.Ops), "the table's rows")
}
