package flow_test

import (
	"reflect"
	"slices"
	"strconv"
	"strings"
	"testing"

	"shunter/api"
	"shunter/code"
	"shunter/flow"
	"shunter/ground"
)

// The model asks backwards, slot by slot: is there a way to a place by which a slot is gone there?

// model knows slots and stacks of its own, and asks no other layer.
type model struct {
	m       api.Image
	l       []api.Ins
	s       flow.Set
	ways    [][]way // to each place
	asked   [][64]answer
	reached []bool
}

// way is from an instruction to a place, ahead by a jump or to the next one.
type way struct {
	from  int
	jumps bool
}

// answer is what was found when it was asked the first time.
type answer struct{ known, gone bool }

func modelOf(m api.Image, l []api.Ins, s flow.Set) model {
	x := model{m: m, l: l, s: s, ways: make([][]way, len(l)+1), asked: make([][64]answer, len(l)+1), reached: make([]bool, len(l)+1)}
	x.reached[0] = true
	for at, in := range l {
		if !x.reached[at] {
			continue
		}
		to, jumps := map[api.Op]int{api.OpJump: in.A, api.OpJumpZero: in.A, api.OpJumpGone: in.B}[in.Op]
		if jumps {
			x.ways[to] = append(x.ways[to], way{at, true})
			x.reached[to] = true
		}
		if in.Op != api.OpJump && in.Op != api.OpStop {
			x.ways[at+1] = append(x.ways[at+1], way{at, false})
			x.reached[at+1] = true
		}
	}
	return x
}

func (x model) gone(at, slot int) bool {
	a := &x.asked[at][slot]
	if !a.known {
		a.known, a.gone = true, at == 0 && x.s>>slot&1 == 0
		for _, w := range x.ways[at] {
			a.gone = a.gone || x.goneBy(w, slot)
		}
	}
	return a.gone
}

func (x model) goneBy(w way, slot int) bool {
	in := x.l[w.from]
	switch {
	case in.Op == api.OpShow && in.A == slot:
		return false
	case in.Op == api.OpHide && in.A == slot:
		return true
	case in.Op == api.OpJumpGone && in.A == slot:
		return w.jumps
	case in.Op == api.OpPushHead || in.Op == api.OpPopHead:
		was, any := x.was(in, slot)
		return !any || x.gone(w.from, was)
	}
	return x.gone(w.from, slot)
}

// was is the slot that comes to lie at a slot, if any does.
func (x model) was(in api.Ins, slot int) (int, bool) {
	l := slotsOf(x.m, in.A)
	i := slices.Index(l, slot)
	switch {
	case i < 0:
		return slot, true
	case in.Op == api.OpPushHead && i >= in.B:
		return l[i-in.B], true
	case in.Op == api.OpPopHead && i+in.B < len(l):
		return l[i+in.B], true
	}
	return 0, false
}

// slotsOf are the slots of a stack; none of what is no stack.
func slotsOf(m api.Image, inst int) []int {
	next := 0
	for i, in := range m.Insts {
		var l []int
		for range max(1, in.Depth) {
			l = append(l, next)
			next++
		}
		if i == inst && in.Depth > 0 {
			return l
		}
	}
	return nil
}

// slots is how many slots an image has.
func slots(m api.Image) int {
	n := 0
	for _, in := range m.Insts {
		n += max(1, in.Depth)
	}
	return n
}

func (x model) sure(at int) flow.Set {
	var s flow.Set
	for slot := range 64 {
		if x.reached[at] && !x.gone(at, slot) {
			s |= 1 << slot
		}
	}
	return s
}

// told is what Code tells.
type told struct {
	s  flow.Set
	at int
	e  api.Errno
}

func tell(s flow.Set, at int, e api.Errno) told { return told{s, at, e} }

// code is what Code tells of code that layer 10 lets be.
func (x model) code() told {
	sure := ^flow.Set(0)
	for at, in := range x.l {
		if x.reached[at] && isPlace(in) && x.gone(at, in.A) {
			return told{0, at, api.ErrValid}
		}
		if x.reached[at] && in.Op == api.OpStop {
			sure &= x.sure(at)
		}
	}
	if x.reached[len(x.l)] {
		sure &= x.sure(len(x.l))
	}
	return told{sure, 0, api.OK}
}

func isPlace(in api.Ins) bool { return in.Op == api.OpField || in.Op == api.OpPutField }

// Short words for instructions and sets.

func op(o api.Op, n ...int) api.Ins {
	n = append(n, 0, 0)
	return api.Ins{Op: o, A: n[0], B: n[1]}
}

func push(w int) api.Ins { return api.Ins{V: api.Vec{W: w, Lo: 1}} }

func of(l ...api.Ins) []api.Ins { return l }

func get(slot int) api.Ins { return op(api.OpField, slot) }

func put(slot int) api.Ins { return op(api.OpPutField, slot) }

func show(slot int) api.Ins { return op(api.OpShow, slot) }

func hide(slot int) api.Ins { return op(api.OpHide, slot) }

func gone(slot, to int) api.Ins { return op(api.OpJumpGone, slot, to) }

func zero(to int) api.Ins { return op(api.OpJumpZero, to) }

func jump(to int) api.Ins { return op(api.OpJump, to) }

func stop() api.Ins { return op(api.OpStop) }

func set(l ...int) flow.Set {
	var s flow.Set
	for _, slot := range l {
		s |= 1 << slot
	}
	return s
}

const full = ^flow.Set(0)

// texts are instructions in words, for what a test tells.
func texts(l []api.Ins) string {
	var s []string
	for i, x := range l {
		s = append(s, strconv.Itoa(i)+": "+code.Text(x))
	}
	return strings.Join(s, "; ")
}

// right has no flaw. Slots: eth 0, tags (the instance 1) 1 to 3, ip 4, odd (the instance 3, a stack of one) 5, in 6.
func right() api.Image { return ground.Image() }

// many has no flaw, and as many slots as there may be: behind those of right six stacks of 4 (the instances 5 to 10), and one slot more.
func many() api.Image {
	for _, m := range ground.Images() {
		if slots(m) == 32 {
			return m
		}
	}
	panic("no such image")
}

func is(t *testing.T, got, want any, what ...any) {
	t.Helper()
	if !reflect.DeepEqual(got, want) {
		t.Fatalf("%v = %v; want %v", what, got, want)
	}
}
