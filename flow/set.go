package flow

import (
	"shunter/api"
	"shunter/shape"
)

const size = 64 // slots that a set has room for

// Set is slots.
type Set uint64

// Has tells whether a slot is in it.
func (s Set) Has(slot int) bool {
	return s&only(slot) != 0
}

// With is the set and a slot.
func (s Set) With(slot int) Set {
	return s | only(slot)
}

// Without is the set but for a slot.
func (s Set) Without(slot int) Set {
	return s &^ only(slot)
}

// Both is what is in both.
func (s Set) Both(t Set) Set {
	return s & t
}

// Within tells whether all of it is in another one.
func (s Set) Within(t Set) bool {
	return s.Both(t) == s
}

// List is a set's slots.
func (s Set) List() []int {
	var l []int
	for slot := range size {
		if s.Has(slot) {
			l = append(l, slot)
		}
	}
	return l
}

// Of is the set of a list.
func Of(l []int) Set {
	var s Set
	for _, slot := range l {
		s = s.With(slot)
	}
	return s
}

// All is all slots of an image.
func All(m api.Image) Set {
	var s Set
	for slot := range min(shape.Slots(m.Insts), size) {
		s = s.With(slot)
	}
	return s
}

// only is the set of one slot; a slot that no set has is in none, so that nothing is changed by it.
func only(slot int) Set {
	if slot < 0 || slot >= size {
		return 0
	}
	return 1 << slot
}
