package shape

import (
	"slices"
	"strings"

	"shunter/api"
	"shunter/name"
)

// Insts tells why instances may not be.
func Insts(headers []api.Header, l []api.Inst) api.Errno {
	if len(l) > api.MaxInsts {
		return api.ErrLong
	}
	names := instNames(l)
	for i, x := range l {
		if e := mayName(names, i); e != api.OK {
			return e
		}
		switch {
		case !within(x.Header, 0, len(headers)-1):
			return api.ErrNone
		case !mayDepth(x):
			return api.ErrRange
		}
	}
	if Slots(l) > api.MaxSlots {
		return api.ErrFull
	}
	return api.OK
}

// Slots is how many slots there are.
func Slots(l []api.Inst) int {
	n := 0
	for _, x := range l {
		n += slotsOf(x)
	}
	return n
}

// First is an instance's first slot.
func First(l []api.Inst, i int) (int, bool) {
	if !within(i, 0, len(l)-1) || slotsOf(l[i]) == 0 {
		return 0, false
	}
	return Slots(l[:i]), true
}

// Of is a slot's instance, and which of its slots it is.
func Of(l []api.Inst, slot int) (int, int, bool) {
	if slot < 0 {
		return 0, 0, false
	}
	for i, x := range l {
		n := slotsOf(x)
		if slot < n {
			return i, slot, true
		}
		slot -= n
	}
	return 0, 0, false
}

// Header is a slot's header.
func Header(headers []api.Header, l []api.Inst, slot int) (api.Header, bool) {
	i, _, ok := Of(l, slot)
	if !ok || !within(l[i].Header, 0, len(headers)-1) {
		return api.Header{}, false
	}
	return fresh(headers[l[i].Header]), true
}

// Find is the place of an instance.
func Find(l []api.Inst, s string) int {
	return name.Index(instNames(l), s)
}

// slotsOf is how many slots an instance has: none, if its Depth may not be.
func slotsOf(x api.Inst) int {
	if !mayDepth(x) {
		return 0
	}
	return max(x.Depth, 1)
}

func mayDepth(x api.Inst) bool {
	return within(x.Depth, 0, api.MaxStack)
}

func instNames(l []api.Inst) []string {
	return gather(len(l), func(i int) string { return l[i].Name })
}

// fresh is the same header in new memory.
func fresh(h api.Header) api.Header {
	h.Name = strings.Clone(h.Name)
	h.Fields = slices.Clone(h.Fields)
	for i := range len(h.Fields) {
		h.Fields[i].Name = strings.Clone(h.Fields[i].Name)
	}
	return h
}
