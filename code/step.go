package code

import "shunter/api"

// Make is an instruction as a step.
func Make(x api.Ins) (Step, api.Errno) {
	if e := May(x); e != api.OK {
		return nil, e
	}
	return step(x), api.OK
}

// step asks nothing of an instruction but that there is such an operation.
func step(x api.Ins) Step {
	switch x.Op {
	case api.OpPush:
		return Push{x.V}
	case api.OpField, api.OpPutField:
		return Place{x.Op, x.A, x.B}
	case api.OpMeta, api.OpPutMeta, api.OpParam, api.OpReg, api.OpPutReg, api.OpCount, api.OpMeter:
		return Cell{x.Op, x.A}
	case api.OpValid, api.OpShow, api.OpHide:
		return Slot{x.Op, x.A}
	case api.OpNot, api.OpNeg, api.OpShl, api.OpShr, api.OpCast:
		return One{x.Op, x.A}
	case api.OpSlice:
		return Part{x.A, x.B}
	case api.OpPushHead, api.OpPopHead:
		return Heads{x.Op, x.A, x.B}
	case api.OpJump, api.OpJumpZero:
		return Jump{x.Op, x.A}
	case api.OpJumpGone:
		return Gone{x.A, x.B}
	case api.OpStop:
		return Stop{}
	}
	return Two{x.Op}
}

// Plain is a step's instruction.
func Plain(s Step) (api.Ins, bool) {
	x := written(s)
	// A step may have an operation, or numbers, that no instruction's step of its type has.
	if made, e := Make(x); e != api.OK || made != s {
		return api.Ins{}, false
	}
	return x, true
}

// written is a step's parts at their places in an instruction; of what is no step of this package's it is none that may be.
func written(s Step) api.Ins {
	switch s := s.(type) {
	case Push:
		return api.Ins{Op: api.OpPush, V: s.V}
	case Place:
		return api.Ins{Op: s.O, A: s.Slot, B: s.Field}
	case Cell:
		return api.Ins{Op: s.O, A: s.N}
	case Slot:
		return api.Ins{Op: s.O, A: s.N}
	case One:
		return api.Ins{Op: s.O, A: s.N}
	case Part:
		return api.Ins{Op: api.OpSlice, A: s.Hi, B: s.Lo}
	case Two:
		return api.Ins{Op: s.O}
	case Heads:
		return api.Ins{Op: s.O, A: s.Inst, B: s.N}
	case Jump:
		return api.Ins{Op: s.O, A: s.To}
	case Gone:
		return api.Ins{Op: api.OpJumpGone, A: s.Slot, B: s.To}
	case Stop:
		return api.Ins{Op: api.OpStop}
	}
	return api.Ins{Op: api.Ops}
}

// All is instructions as steps.
func All(l []api.Ins) ([]Step, int, api.Errno) {
	var steps []Step
	for i, x := range l {
		if i == api.MaxCode {
			return nil, i, api.ErrLong
		}
		s, e := Make(x)
		if e != api.OK {
			return nil, i, e
		}
		steps = append(steps, s)
	}
	return steps, len(steps), api.OK
}

// Target is where a step goes.
func Target(s Step) (int, bool) {
	return target(s)
}

// Only is a step as a Push; it panics, if it is none.
func Only(s Step) Push {
	return mustPush(s)
}

// The assertions have functions of their own, for none may stand in an exported one on what is handed in.

func target(s Step) (int, bool) {
	if j, ok := s.(Jump); ok {
		return j.To, true
	}
	if g, ok := s.(Gone); ok {
		return g.To, true
	}
	return 0, false
}

// mustPush leaves the panic to the assertion, whose run-time error is promised.
func mustPush(s Step) Push {
	return s.(Push)
}
