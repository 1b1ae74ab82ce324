package code

import (
	"shunter/api"
	"shunter/vec"
)

// span is the numbers from least to most; the zero one is for what an operation doesn't name.
type span struct {
	least, most int
}

func below(n int) span {
	return span{0, n - 1}
}

func (s span) has(n int) bool {
	return n >= s.least && n <= s.most
}

func isOp(o api.Op) bool {
	return o >= 0 && o < api.Ops
}

// May tells why an instruction may not be.
func May(x api.Ins) api.Errno {
	a, b := asks(x)
	switch {
	case !isOp(x.Op):
		return api.ErrKind
	case !a.has(x.A) || !b.has(x.B):
		return api.ErrRange
	case !mayRow(x):
		return api.ErrArg
	}
	return api.OK
}

// asks is what A and B are to be; of a slice what B may be hangs on A.
func asks(x api.Ins) (span, span) {
	switch x.Op {
	case api.OpField, api.OpPutField:
		return below(api.MaxSlots), below(api.MaxFields)
	case api.OpMeta, api.OpPutMeta:
		return below(api.Metas + api.MaxMetas), span{}
	case api.OpParam:
		return below(api.MaxParams), span{}
	case api.OpValid, api.OpShow, api.OpHide:
		return below(api.MaxSlots), span{}
	case api.OpReg, api.OpPutReg, api.OpCount, api.OpMeter:
		return below(api.MaxUnits), span{}
	case api.OpShl, api.OpShr:
		return span{0, api.MaxWidth}, span{}
	case api.OpSlice:
		return below(api.MaxWidth), span{0, x.A}
	case api.OpCast:
		return span{1, api.MaxWidth}, span{}
	case api.OpPushHead, api.OpPopHead:
		return below(api.MaxInsts), span{1, api.MaxStack}
	case api.OpJump, api.OpJumpZero:
		return span{0, api.MaxCode}, span{}
	case api.OpJumpGone:
		return below(api.MaxSlots), span{0, api.MaxCode}
	}
	return span{}, span{}
}

func mayRow(x api.Ins) bool {
	if x.Op == api.OpPush {
		return vec.May(x.V)
	}
	return x.V == api.Vec{}
}

// Effect is how many values an operation takes, and puts.
func Effect(o api.Op) (int, int) {
	switch o {
	case api.OpPush, api.OpField, api.OpMeta, api.OpParam, api.OpValid:
		return 0, 1
	case api.OpReg, api.OpNot, api.OpNeg, api.OpShl, api.OpShr, api.OpSlice, api.OpCast, api.OpMeter:
		return 1, 1
	case api.OpAdd, api.OpSub, api.OpAddSat, api.OpSubSat, api.OpAnd, api.OpOr, api.OpXor, api.OpCat, api.OpEq, api.OpLess:
		return 2, 1
	case api.OpPutField, api.OpPutMeta, api.OpCount, api.OpJumpZero:
		return 1, 0
	case api.OpPutReg:
		return 2, 0
	}
	return 0, 0
}
