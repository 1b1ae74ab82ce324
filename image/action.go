package image

import (
	"shunter/api"
	"shunter/code"
)

func (c checker) actions() (int, api.Errno) {
	return named(c.m.Actions, api.MaxActions, func(x api.Action) string { return x.Name }, c.action)
}

func (c checker) action(x api.Action) api.Errno {
	_, widths := each(x.Params, api.MaxParams, func(_, w int) api.Errno { return mayWidth(w) })
	return first(widths, Code(c.m, x.Params, x.Code))
}

// Code tells why code may not be.
func Code(m api.Image, params []int, l []api.Ins) api.Errno {
	if len(params) > api.MaxParams {
		return api.ErrLong
	}
	steps, _, e := code.All(l)
	if e != api.OK {
		return e
	}
	_, e = each(steps, api.MaxCode, func(i int, s code.Step) api.Errno {
		return first(
			unless(isThere(m, params, l[i]), api.ErrNone),
			unless(leadsAhead(s, i, len(l)), api.ErrLoop),
		)
	})
	return e
}

// isThere tells whether there is what an instruction names; that it may be was asked ahead.
func isThere(m api.Image, params []int, x api.Ins) bool {
	ok := true
	switch x.Op {
	case api.OpField, api.OpPutField:
		_, ok = Field(m, x.A, x.B)
	case api.OpMeta, api.OpPutMeta:
		_, ok = Meta(m, x.A)
	case api.OpParam:
		ok = isPlace(params, x.A)
	case api.OpReg, api.OpPutReg:
		ok = isPlace(m.Regs, x.A)
	case api.OpCount:
		ok = isPlace(m.Counters, x.A)
	case api.OpMeter:
		ok = isPlace(m.Meters, x.A)
	case api.OpValid, api.OpShow, api.OpHide, api.OpJumpGone:
		ok = isSlot(m, x.A)
	case api.OpPushHead, api.OpPopHead:
		_, _, ok = Stacked(m, x.A)
	}
	return ok
}

// leadsAhead tells whether a step at a place jumps, if it does, behind that place, at most to the end.
func leadsAhead(s code.Step, at, end int) bool {
	to, ok := code.Target(s)
	return !ok || within(to, at+1, end)
}
