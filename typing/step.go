package typing

import (
	"slices"

	"shunter/api"
	"shunter/code"
	"shunter/image"
)

const truth = 1 // bits of one

// behind is the stack behind a step.
func (w walker) behind(s code.Step, k stack) (stack, api.Errno) {
	takes, puts := code.Effect(s.Op())
	if k.count < takes {
		return stack{}, api.ErrStack
	}
	if isUnwritable(s) {
		return stack{}, api.ErrKind
	}
	taken, k := k.take(takes)
	width, ok := w.width(s, taken)
	if !ok {
		return stack{}, api.ErrWidth
	}
	if puts == 0 {
		return k, api.OK
	}
	k, ok = k.put(width)
	if !ok {
		return stack{}, api.ErrStack
	}
	return k, api.OK
}

// isUnwritable tells whether a step writes metadata that may only be read.
func isUnwritable(s code.Step) bool {
	x, ok := s.(code.Cell)
	if !ok || x.O != api.OpPutMeta {
		return false
	}
	return x.N == api.MetaIn || x.N == api.MetaSize || x.N == api.MetaRound
}

// width tells of which width a step puts a value, if it puts one, and whether what it takes is as it has to be.
func (w walker) width(s code.Step, taken []int) (int, bool) {
	switch s := s.(type) {
	case code.Push:
		return s.V.W, true
	case code.Place:
		field, _ := image.Field(w.m, s.Slot, s.Field)
		return field, all(taken, field)
	case code.Cell:
		return w.cell(s, taken)
	case code.One:
		return one(s, taken[0]), true
	case code.Part:
		return s.Hi - s.Lo + 1, taken[0] > s.Hi
	case code.Two:
		return two(s, taken[0], taken[1])
	}
	// The others, if they take or put anything, take or put truths.
	return truth, all(taken, truth)
}

func (w walker) cell(s code.Cell, taken []int) (int, bool) {
	switch s.O {
	case api.OpParam:
		return w.params[s.N], true
	case api.OpReg:
		r := w.m.Regs[s.N]
		return r.W, all(taken, r.Log)
	case api.OpPutReg:
		r := w.m.Regs[s.N]
		return 0, slices.Equal(taken, []int{r.Log, r.W})
	case api.OpCount:
		return 0, all(taken, w.m.Counters[s.N].Log)
	case api.OpMeter:
		return truth, all(taken, w.m.Meters[s.N].Log)
	}
	meta, _ := image.Meta(w.m, s.N)
	return meta, all(taken, meta)
}

func one(s code.One, w int) int {
	if s.O == api.OpCast {
		return s.N
	}
	return w
}

func two(s code.Two, a, b int) (int, bool) {
	switch s.O {
	case api.OpCat:
		return a + b, a+b <= api.MaxWidth
	case api.OpEq, api.OpLess:
		return truth, a == b
	}
	return a, a == b
}

// all tells whether all that is taken, if anything, is of one width.
func all(taken []int, w int) bool {
	return !slices.ContainsFunc(taken, func(x int) bool { return x != w })
}
