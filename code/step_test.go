package code_test

import (
	"math"
	"runtime"
	"slices"
	"sync"
	"testing"

	"shunter/api"
	"shunter/code"
)

// Promise 9.1: steps.

func TestMake(t *testing.T) {
	eachIns(func(x api.Ins) {
		e := may(x)
		var want code.Step
		if e == api.OK {
			want = table()[x.Op].step(x.Op, x.A, x.B, x.V)
		}
		if s, got := code.Make(x); s != want || got != e {
			t.Errorf("Make(%v) = %#v, %d; want %#v, %d", x, s, got, want, e)
		}
	})
}

// Promise 9.1: each step's Op() is its operation.
func TestOp(t *testing.T) {
	eachRight(func(x api.Ins) {
		s, e := code.Make(x)
		if e != api.OK || s == nil || s.Op() != x.Op {
			t.Errorf("Make(%v) = %#v, %d, with another operation", x, s, e)
		}
	})
	// Also a step that wasn't made.
	for _, o := range ops() {
		for _, s := range []code.Step{code.Place{O: o}, code.Cell{O: o}, code.Slot{O: o}, code.One{O: o}, code.Two{O: o}, code.Heads{O: o}, code.Jump{O: o}} {
			is(t, s.Op(), o, "Op", s)
		}
	}
	for _, c := range []struct {
		s    code.Step
		want api.Op
	}{
		{code.Push{}, api.OpPush}, {code.Part{}, api.OpSlice}, {code.Gone{}, api.OpJumpGone}, {code.Stop{}, api.OpStop},
	} {
		is(t, c.s.Op(), c.want, "Op", c.s)
	}
}

// plain is what Plain tells.
type plain struct {
	x  api.Ins
	ok bool
}

func tellPlain(x api.Ins, ok bool) plain { return plain{x, ok} }

// Promise 9.4: Plain of Make is the instruction.
func TestPlainOfMake(t *testing.T) {
	eachRight(func(x api.Ins) {
		s, _ := code.Make(x)
		if got := tellPlain(code.Plain(s)); got != (plain{x, true}) {
			t.Errorf("Plain of Make(%v) = %v", x, got)
		}
	})
}

// eachStep goes over steps of all types, of which most aren't made of an instruction.
func eachStep(do func(s code.Step)) {
	do(code.Stop{})
	for _, v := range rows() {
		do(code.Push{V: v})
	}
	for _, a := range numbers() {
		for _, b := range numbers() {
			do(code.Part{Hi: a, Lo: b})
			do(code.Gone{Slot: a, To: b})
		}
	}
	for _, o := range ops() {
		do(code.Two{O: o})
		for _, a := range numbers() {
			do(code.Cell{O: o, N: a})
			do(code.Slot{O: o, N: a})
			do(code.One{O: o, N: a})
			do(code.Jump{O: o, To: a})
			for _, b := range numbers() {
				do(code.Place{O: o, Slot: a, Field: b})
				do(code.Heads{O: o, Inst: a, N: b})
			}
		}
	}
}

// Promise 9.1: a step that no instruction has isn't one.
func TestPlain(t *testing.T) {
	made := map[code.Step]api.Ins{}
	eachRight(func(x api.Ins) {
		made[table()[x.Op].step(x.Op, x.A, x.B, x.V)] = x
	})
	eachStep(func(s code.Step) {
		x, ok := made[s]
		if got := tellPlain(code.Plain(s)); got != (plain{x, ok}) {
			t.Errorf("Plain(%#v) = %v; want %v, %t", s, got, x, ok)
		}
	})
}

// Types that are none of the package's, of which some have one within.
type (
	other    int
	within   struct{ code.Step }
	pushed   struct{ code.Push }
	unalike  []int
	panicker struct{}
	named    code.Stop
)

func (other) Op() api.Op    { return api.OpStop }
func (unalike) Op() api.Op  { return api.OpPush }
func (panicker) Op() api.Op { panic("asked for its operation") }
func (named) Op() api.Op    { return api.OpStop }

func foreign() []code.Step {
	return []code.Step{
		nil, other(0), within{code.Stop{}}, within{}, pushed{code.Push{V: api.Vec{W: 1}}}, unalike{1}, unalike(nil), panicker{}, named{}, (*other)(nil),
		&code.Push{V: api.Vec{W: 1}}, &code.Place{O: api.OpField}, &code.Cell{O: api.OpMeta}, &code.Slot{O: api.OpShow}, &code.One{O: api.OpNot}, &code.Part{}, &code.Two{O: api.OpAdd}, &code.Heads{O: api.OpPushHead, N: 1}, &code.Jump{O: api.OpJump, To: 3}, &code.Gone{To: 3}, &code.Stop{},
		(*code.Push)(nil), (*code.Place)(nil), (*code.Jump)(nil), (*code.Gone)(nil), (*code.Stop)(nil),
	}
}

func TestPlainOfOtherTypes(t *testing.T) {
	for i, s := range foreign() {
		is(t, tellPlain(code.Plain(s)), plain{}, "Plain of the step", i)
	}
}

// Promise 9.2: all of them.

// all is what All tells.
type all struct {
	steps []code.Step
	n     int
	e     api.Errno
}

func tellAll(steps []code.Step, n int, e api.Errno) all {
	if len(steps) == 0 {
		steps = nil
	}
	return all{steps, n, e}
}

// right are all that may be.
var right = sync.OnceValue(func() []api.Ins {
	var l []api.Ins
	eachRight(func(x api.Ins) { l = append(l, x) })
	return l
})

// someIns are n that may be.
func someIns(n int) []api.Ins {
	var l []api.Ins
	right := right()
	for i := range n {
		l = append(l, right[i*37%len(right)])
	}
	return l
}

func stepsOf(l []api.Ins) []code.Step {
	var steps []code.Step
	for _, x := range l {
		steps = append(steps, table()[x.Op].step(x.Op, x.A, x.B, x.V))
	}
	return steps
}

func TestAll(t *testing.T) {
	is(t, tellAll(code.All(nil)), all{}, "All of nil")
	is(t, tellAll(code.All([]api.Ins{})), all{}, "All of none")
	for n := 1; n <= 64; n++ {
		l := someIns(n)
		is(t, tellAll(code.All(l)), all{stepsOf(l), n, api.OK}, "All", l)
	}
	for _, n := range []int{65, 66, 128, 1000} {
		is(t, tellAll(code.All(someIns(n))), all{nil, 64, api.ErrLong}, "All of many", n)
	}
	eachRight(func(x api.Ins) {
		is(t, tellAll(code.All([]api.Ins{x})), all{stepsOf([]api.Ins{x}), 1, api.OK}, "All", x)
	})
}

func TestAllTellsTheFirstFault(t *testing.T) {
	wrong := []api.Ins{{Op: -1}, {Op: api.OpStop, A: 1}, {}}
	for _, n := range []int{1, 2, 5, 63, 64, 65, 200} {
		for at := range n {
			for i, x := range wrong {
				l := someIns(n)
				l[at] = x
				want := all{nil, at, may(x)}
				if at >= 64 {
					want = all{nil, 64, api.ErrLong}
				}
				is(t, tellAll(code.All(l)), want, "All with a fault", n, at, x)
				l[n-1] = wrong[(i+1)%3]
				if at < n-1 {
					is(t, tellAll(code.All(l)), want, "All with two faults", n, at, x)
				}
			}
		}
	}
}

// The steps are new memory, and what is handed in stays.
func TestAllIsNewMemory(t *testing.T) {
	l := append(someIns(20), api.Ins{Op: 77})[:20]
	kept := slices.Clone(l)
	first, _, _ := code.All(l)
	second, _, _ := code.All(l)
	for i := range first[:cap(first)] {
		first[:cap(first)][i] = nil
	}
	is(t, second, stepsOf(kept), "turned what was told:")
	is(t, l, kept, "turned what was told:")
	is(t, l[:21][20], api.Ins{Op: 77}, "turned what was told:")
	for i := range l {
		l[i] = api.Ins{Op: 77}
	}
	is(t, second, stepsOf(kept), "turned what was handed in:")
}

// Promise 9.2: where steps go.

// goes is what Target tells.
type goes struct {
	to int
	ok bool
}

func tellGoes(to int, ok bool) goes { return goes{to, ok} }

func TestTarget(t *testing.T) {
	eachRight(func(x api.Ins) {
		want := goes{}
		switch x.Op {
		case api.OpJump, api.OpJumpZero:
			want = goes{x.A, true}
		case api.OpJumpGone:
			want = goes{x.B, true}
		}
		s, _ := code.Make(x)
		is(t, tellGoes(code.Target(s)), want, "Target", x)
	})
	for _, n := range numbers() {
		is(t, tellGoes(code.Target(code.Jump{O: api.OpJump, To: n})), goes{n, true}, "Target of a jump", n)
		is(t, tellGoes(code.Target(code.Gone{Slot: 5, To: n})), goes{n, true}, "Target of a gone", n)
	}
	for i, s := range foreign() {
		is(t, tellGoes(code.Target(s)), goes{}, "Target of the step", i)
	}
}

// Promise 9.2: the Push that a step is.

func TestOnly(t *testing.T) {
	for _, v := range append(rows(), api.Vec{W: math.MaxInt, Hi: 3, Lo: 4}) {
		is(t, code.Only(code.Push{V: v}), code.Push{V: v}, "Only", v)
	}
	s, _ := code.Make(api.Ins{V: api.Vec{W: 8, Lo: 2}})
	is(t, code.Only(s), code.Push{V: api.Vec{W: 8, Lo: 2}}, "Only of a step that was made")
}

func TestOnlyPanics(t *testing.T) {
	l := foreign()
	eachRight(func(x api.Ins) {
		if s, _ := code.Make(x); x.Op != api.OpPush {
			l = append(l, s)
		}
	})
	for i, s := range l {
		func() {
			defer func() {
				r := recover()
				if _, ok := r.(*runtime.TypeAssertionError); !ok {
					t.Errorf("Only of the step %d: %v; want the assertion's run-time error", i, r)
				}
			}()
			code.Only(s)
			t.Errorf("Only of the step %d answers", i)
		}()
	}
}
