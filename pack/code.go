package pack

import (
	"slices"

	"shunter/api"
	"shunter/code"
	"shunter/wire"
)

// Code writes code.
func Code(b []byte, l []api.Ins) []byte {
	return slices.Concat(b, instructions(l))
}

// instructions are a list without any, if layer 9 doesn't take them: it answers no steps then.
func instructions(l []api.Ins) []byte {
	steps, _, _ := code.All(l)
	return list(steps, instruction)
}

func instruction(s code.Step) []byte {
	op := singles(int(s.Op()))
	if x, ok := s.(code.Push); ok {
		return wire.Vec(op, x.V)
	}
	return append(op, singles(numbers(s)...)...)
}

// numbers are those of A and B that a step names.
func numbers(s code.Step) []int {
	if x, ok := s.(code.Place); ok {
		return []int{x.Slot, x.Field}
	}
	if x, ok := s.(code.Cell); ok {
		return []int{x.N}
	}
	if x, ok := s.(code.Slot); ok {
		return []int{x.N}
	}
	// Of the steps of this type, those of not and neg have no number.
	if x, ok := s.(code.One); ok && x.O != api.OpNot && x.O != api.OpNeg {
		return []int{x.N}
	}
	if x, ok := s.(code.Part); ok {
		return []int{x.Hi, x.Lo}
	}
	if x, ok := s.(code.Heads); ok {
		return []int{x.Inst, x.N}
	}
	if x, ok := s.(code.Jump); ok {
		return []int{x.To}
	}
	if x, ok := s.(code.Gone); ok {
		return []int{x.Slot, x.To}
	}
	return nil
}
