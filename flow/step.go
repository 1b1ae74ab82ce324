package flow

import (
	"shunter/api"
	"shunter/code"
	"shunter/image"
)

// Step is the set behind an instruction.
func Step(m api.Image, x api.Ins, s Set) (Set, api.Errno) {
	step, e := code.Make(x)
	if e != api.OK {
		return 0, api.ErrArg
	}
	return behind(m, step, s)
}

// behind is the set at the place behind a step.
func behind(m api.Image, x code.Step, s Set) (Set, api.Errno) {
	switch x := x.(type) {
	case code.Place:
		if !s.Has(x.Slot) {
			return 0, api.ErrValid
		}
	case code.Slot:
		return turned(x, s), api.OK
	case code.Heads:
		return Move(m, x.Inst, far(x), s), api.OK
	case code.Gone:
		return s.With(x.Slot), api.OK
	}
	return s, api.OK
}

func turned(x code.Slot, s Set) Set {
	switch x.O {
	case api.OpShow:
		return s.With(x.N)
	case api.OpHide:
		return s.Without(x.N)
	}
	return s
}

// far is by how much a step moves a stack, as Move counts it.
func far(x code.Heads) int {
	if x.O == api.OpPopHead {
		return -x.N
	}
	return x.N
}

// Move moves a stack's slots within a set.
func Move(m api.Image, inst, n int, s Set) Set {
	first, depth, ok := image.Stacked(m, inst)
	if !ok {
		return s
	}
	n = max(-api.MaxStack, min(n, api.MaxStack))
	moved := s
	for i := range depth {
		moved = moved.Without(first + i)
		if from := i - n; from >= 0 && from < depth && s.Has(first+from) {
			moved = moved.With(first + i)
		}
	}
	return moved
}
