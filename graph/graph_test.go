package graph_test

import (
	"reflect"
	"slices"
	"testing"

	"shunter/api"
	"shunter/flow"
	"shunter/graph"
	"shunter/ground"
	"shunter/image"
	"shunter/typing"
)

const (
	accept = api.Accept
	reject = api.Reject
	full   = flow.Set(127) // all slots of the image
)

func facts(seen []bool, l []flow.Set, behind flow.Set, accepts bool, bytes, steps int) told {
	return told{f: graph.Facts{Seen: seen, Sets: l, Accept: behind, Accepts: accepts, Bytes: bytes, Steps: steps}}
}

func wrong(state, at int) told {
	return told{w: typing.Wrong{Part: 4, N: state, At: at, E: api.ErrValid}}
}

func yes(n int) []bool { return slices.Repeat([]bool{true}, n) }

func TestExamples(t *testing.T) {
	m := ground.LeastImage()
	m.Headers = []api.Header{{Name: "h", Fields: []api.Field{{Name: "a", W: 16}}}}
	m.Insts = []api.Inst{{Name: "x"}}
	m.States[0].Exts = exts(one(0))
	is(t, tell(graph.Check(m)), facts(yes(1), sets(0), set(0), true, 2, 2))
	is(t, tell(graph.Check(ground.LeastImage())), facts(yes(1), sets(0), 0, true, 0, 1))
}

// Promise 16.1: which states are reached, what is surely there ahead of them, and when the parser Accepts.
func TestSurelyThere(t *testing.T) {
	nothing := exts()
	for i, c := range []struct {
		m    api.Image
		want told
	}{
		// One state.
		{with(1, state(exts(one(0), one(6)), accept)), facts(yes(1), sets(0), set(0, 6), true, 58, 3)},
		{with(1, state(exts(one(0)), reject)), facts(yes(1), sets(0), full, false, 14, 2)},
		{with(1, state(exts(one(0)), reject, accept)), facts(yes(1), sets(0), set(0), true, 14, 2)},
		{with(1, state(exts(one(0)), accept, reject)), facts(yes(1), sets(0), set(0), true, 14, 2)},
		{with(1, state(nothing, 0)), facts(yes(1), sets(0), full, false, 0, 1)},
		// What is taken of stacks is sure nowhere, and what is left out takes nothing.
		{with(1, state(exts(another(1), another(3), skip(4), one(4)), accept)), facts(yes(1), sets(0), set(4), true, 74, 5)},
		// Several, one behind the other.
		{with(3, state(exts(one(0)), 1), state(exts(one(4)), 2), state(exts(one(6)), accept)), facts(yes(3), sets(0, set(0), set(0, 4)), set(0, 4, 6), true, 102, 6)},
		{with(3, state(exts(one(0)), 2), state(exts(one(6)), accept), state(exts(one(4)), 1)), facts(yes(3), sets(0, set(0, 4), set(0)), set(0, 4, 6), true, 102, 6)},
		// More of them than the Depth are reached too.
		{with(1, state(exts(one(0)), 1), state(exts(one(4)), 2), state(exts(one(6)), accept)), facts(yes(3), sets(0, set(0), set(0, 4)), set(0, 4, 6), true, 14, 2)},
		// Ways that meet.
		{with(9, state(nothing, 1, 2), state(exts(one(0), one(4)), 3), state(exts(one(4), one(6)), 3), state(nothing, accept)), facts(yes(4), sets(0, 0, 0, set(4)), set(4), true, 88, 5)},
		{with(9, state(nothing, 1, 2, 3), state(exts(one(4)), 3), state(exts(one(4), one(6)), 3), state(nothing, accept)), facts(yes(4), sets(0, 0, 0, 0), 0, true, 88, 5)},
		// Several that Accept, and one of them by a case.
		{with(9, state(exts(one(0)), 1, 2), state(exts(one(4)), accept), state(exts(one(6)), reject, accept)), facts(yes(3), sets(0, set(0), set(0)), set(0), true, 58, 4)},
		{with(9, state(exts(one(0)), 1, 2), state(exts(one(4)), accept), state(exts(one(6)), reject)), facts(yes(3), sets(0, set(0), set(0)), set(0, 4), true, 58, 4)},
		{with(9, state(exts(one(0)), 1, accept), state(exts(one(4)), accept)), facts(yes(2), sets(0, set(0)), set(0), true, 58, 4)},
		// States that aren't reached are of no matter, whatever they take and wherever they lead.
		{with(9, state(exts(one(0)), accept), state(exts(one(4)), accept)), facts([]bool{true, false}, sets(0, 0), set(0), true, 14, 2)},
		{with(9, state(exts(one(0)), 2), state(exts(one(4)), 2), state(nothing, accept)), facts([]bool{true, false, true}, sets(0, 0, set(0)), set(0), true, 14, 3)},
		{with(9, state(exts(one(0)), 3), state(exts(one(4)), 2, 3), state(nothing, 1, accept), state(nothing, accept)), facts([]bool{true, false, false, true}, sets(0, 0, 0, set(0)), set(0), true, 14, 3)},
		{with(9, state(exts(one(0)), reject), state(exts(one(4)), accept)), facts([]bool{true, false}, sets(0, 0), full, false, 14, 2)},
		// Back to the state 0 nothing is surely there, and on from it what it takes.
		{with(3, state(exts(one(0)), 1), state(exts(one(4)), 0, accept)), facts(yes(2), sets(0, set(0)), set(0, 4), true, 72, 6)},
		{with(2, state(nothing, 1, 2), state(exts(one(4)), 0, 2), state(nothing, accept)), facts(yes(3), sets(0, 0, 0), 0, true, 44, 3)},
		// Round and round: a later way takes away what an earlier one had sure, and what hangs on that.
		{with(4, state(exts(one(0)), 1, 3), state(exts(one(4)), 2), state(nothing, 1, accept), state(nothing, 2)), facts(yes(4), sets(0, set(0), set(0), set(0)), set(0), true, 102, 7)},
		{with(4, state(exts(one(0), one(4)), 1), state(nothing, 1, accept)), facts(yes(2), sets(0, set(0, 4)), set(0, 4), true, 58, 6)},
		{with(5, state(nothing, 4, 1), state(exts(one(6)), 2), state(nothing, 3), state(nothing, 2, accept), state(nothing, 3)), facts(yes(5), sets(0, 0, 0, 0, 0), 0, true, 44, 6)},
	} {
		is(t, tell(graph.Check(c.m)), c.want, i)
		is(t, modelOf(c.m).check(), c.want, "the model:", i)
	}
}

// Promise 16.1: fields of keys that aren't surely there.
func TestKeys(t *testing.T) {
	none := exts()
	ok := func(c api.Image) told { return modelOf(c).check() }
	for i, c := range []struct {
		m    api.Image
		want told
	}{
		{with(1, asks(state(exts(one(0)), accept), field(0, 2))), facts(yes(1), sets(0), set(0), true, 14, 2)},
		{with(1, asks(state(none, accept), field(0, 2))), wrong(0, 0)}, {with(1, asks(state(exts(one(4)), accept), field(0, 2))), wrong(0, 0)},
		// Metadata, and what lies ahead, are always there.
		{with(1, asks(state(none, accept), meta(8), look(0, 4), meta(0))), facts(yes(1), sets(0), 0, true, 0, 1)},
		{with(1, asks(state(none, accept), meta(5), look(3, 4), field(4, 1))), wrong(0, 2)}, {with(1, asks(state(none, accept), look(3, 4), field(6, 1), field(4, 1))), wrong(0, 1)},
		{with(1, asks(state(exts(one(4)), accept), field(4, 1), field(0, 2), field(6, 1))), wrong(0, 1)}, {with(1, asks(state(exts(one(4), one(6)), accept), field(4, 0), field(4, 1), field(6, 2), field(0, 2))), wrong(0, 3)},
		// Of stacks no slot is sure.
		{with(1, asks(state(exts(another(1)), accept), field(1, 0))), wrong(0, 0)}, {with(1, asks(state(exts(another(3)), accept), field(5, 0))), wrong(0, 0)},
		// What was taken ahead is there, and what is taken behind isn't.
		{with(2, state(exts(one(0)), 1), asks(state(none, accept), field(0, 2))), facts(yes(2), sets(0, set(0)), set(0), true, 14, 3)},
		{with(2, asks(state(exts(one(0)), 1), field(4, 0)), state(exts(one(4)), accept)), wrong(0, 0)},
		// By one way alone.
		{with(2, state(exts(one(0)), 1, 2), state(exts(one(4)), 2), asks(state(none, accept), field(0, 2), field(4, 0))), wrong(2, 1)},
		{with(2, state(exts(one(0)), 1), state(exts(one(4)), 2), asks(state(none, 0), field(0, 2), field(4, 0))), ok(with(2, state(exts(one(0)), 1), state(exts(one(4)), 2), state(none, 0)))},
		{with(2, asks(state(none, 1), meta(0), field(6, 0)), state(exts(one(6)), 0)), wrong(0, 1)},
		// The first one, and none that isn't reached.
		{with(2, state(none, 1, 2), asks(state(none, accept), meta(0), field(0, 2)), asks(state(none, accept), field(0, 2))), wrong(1, 1)},
		{with(2, state(none, 2), asks(state(none, accept), meta(0), field(0, 2)), asks(state(none, accept), field(0, 2))), wrong(2, 0)},
		{with(2, state(none, 2), asks(state(none, 2), field(0, 2)), state(none, accept)), facts([]bool{true, false, true}, sets(0, 0, 0), 0, true, 0, 2)},
		// Also where it is reached by more states than the Depth, and where nothing Accepts.
		{with(1, state(none, 1), asks(state(none, reject), field(0, 2))), wrong(1, 0)},
	} {
		is(t, tell(graph.Check(c.m)), c.want, i)
		is(t, modelOf(c.m).check(), c.want, "the model:", i)
	}
	m := with(1, state(none, accept, reject))
	m.States[0].Keys = keys(field(6, 2))
	is(t, tell(graph.Check(m)), wrong(0, 0), "with a case")
	is(t, tell(graph.Check(ground.Image())), wrong(1, 0), "a slot of a stack")
}

// Promise 16.1: how many bytes, and steps, at most.
func TestMost(t *testing.T) {
	none := exts()
	// The way by the state 1 takes the most bytes, the one by the state 2 the most steps.
	fork := []api.State{state(exts(one(0)), 1, 2), state(exts(one(4)), accept), state(exts(skip(1), skip(2), skip(1)), 3), state(exts(skip(1)), reject)}
	for i, c := range []struct {
		m            api.Image
		bytes, steps int
	}{
		{with(1, fork...), 14, 2}, {with(2, fork...), 58, 6}, {with(3, fork...), 58, 8}, {with(32, fork...), 58, 8},
		{with(1, state(none, 0)), 0, 1}, {with(32, state(none, 0)), 0, 32}, {with(32, state(exts(skip(64), one(4), one(4), another(1)), 0, accept)), 32 * 156, 32 * 5},
		// To and fro, and round by two ways.
		{with(5, state(exts(one(0)), 1), state(exts(skip(3)), 0)), 14*3 + 3*2, 10}, {with(4, state(exts(one(0)), 1), state(exts(skip(3)), 0)), 34, 8},
		{with(6, state(none, 1, 2), state(exts(skip(10)), 0), state(none, 3), state(exts(skip(21)), 0)), 42, 9}, {with(5, state(none, 1, 2), state(exts(skip(10)), 0), state(none, 3), state(exts(skip(21)), 0)), 31, 7}, {with(2, state(none, 1, 2), state(exts(skip(10)), 0), state(none, 3), state(exts(skip(21)), 0)), 10, 3},
		// A short way that ends, and a long one.
		{with(32, state(none, 1, 2), state(exts(skip(64)), accept), state(exts(skip(16)), 3), state(exts(skip(16)), 4), state(exts(skip(16)), 5), state(exts(skip(17)), reject)), 65, 9},
		{with(4, state(none, 1, 2), state(exts(skip(64)), accept), state(exts(skip(16)), 3), state(exts(skip(16)), 4), state(exts(skip(16)), 5), state(exts(skip(17)), reject)), 64, 7},
	} {
		got := tell(graph.Check(c.m))
		is(t, []int{got.f.Bytes, got.f.Steps}, []int{c.bytes, c.steps}, i)
		is(t, got, modelOf(c.m).check(), "by the model:", i)
	}
}

// As many states as there may be, of headers that are as long as they may be.
func TestGreatest(t *testing.T) {
	m := ground.LeastImage()
	fields := ground.Several(api.Field{W: 128}, 16, func(x *api.Field, s string) { x.Name = s })
	fields[0].W = 8
	m.Headers = []api.Header{{Name: "h", Fields: fields, Var: 64, By: 0, Mul: 1}}
	m.Insts = ground.Several(api.Inst{}, 16, func(x *api.Inst, s string) { x.Name = s })
	m.Insts[3].Depth = 4
	m.States = ground.Several(api.State{Exts: exts(one(0), another(3), one(18), one(1))}, 16, func(x *api.State, s string) { x.Name = s })
	for i := range m.States {
		m.States[i].Next = (i + 5) % 16
	}
	m.Depth = 32
	got := tell(graph.Check(m))
	is(t, got, modelOf(m).check())
	is(t, []int{got.f.Bytes, got.f.Steps}, []int{32 * 4 * (1 + 15*16 + 64), 32 * 5})
	is(t, got.f.Accept, flow.Set(1<<19-1), "all slots, for it never Accepts")
	m.States[11].Next = accept // the last but one on the way
	is(t, tell(graph.Check(m)), modelOf(m).check())
}

// Promise 16.1: flaws.
func TestCheckOfFlaws(t *testing.T) {
	for i, in := range ground.Flaws() {
		m := ground.Changed(in)
		is(t, tell(graph.Check(m)), told{w: typing.Wrong{E: api.ErrArg}}, "the flaw", i)
		for state := range 5 {
			is(t, graph.Leads(m, state), []int(nil), "Leads: the flaw", i)
			is(t, tellTakes(graph.Takes(m, state)), [2]int{}, "Takes: the flaw", i)
		}
	}
	is(t, tell(graph.Check(api.Image{})), told{w: typing.Wrong{E: api.ErrArg}}, "a zero image")
	is(t, graph.Leads(api.Image{}, 0), []int(nil), "a zero image")
	is(t, tellTakes(graph.Takes(api.Image{}, 0)), [2]int{}, "a zero image")
}

// What doesn't fit together in code, or in tables, is no matter of this layer.
func TestOtherPartsAreNoMatter(t *testing.T) {
	m := with(1, state(exts(), accept))
	m.Actions[1].Code = []api.Ins{{Op: api.OpAdd}, {Op: api.OpField, A: 6}}
	m.Tables[1].Keys = keys(field(6, 3))
	is(t, typing.Check(m) != nil, true, "typing")
	is(t, tell(graph.Check(m)), facts(yes(1), sets(0), 0, true, 0, 1))
}

func tellTakes(bytes, steps int) [2]int { return [2]int{bytes, steps} }

// Promise 16.2.
func TestLeads(t *testing.T) {
	m := with(1,
		state(exts(), accept), state(exts(), reject, accept), state(exts(), 2), state(exts(), 3, 0, 5, 1, accept, 5, 0, reject, 3), state(exts(), reject, 5, 4, 3, 2, 1, 0), state(exts(), 1, 1, 1), state(exts(), accept, 6, 6))
	for i, want := range [][]int{nil, nil, {2}, {0, 1, 3, 5}, {0, 1, 2, 3, 4, 5}, {1}, {6}} {
		is(t, len(graph.Leads(m, i)), len(want), "Leads", i)
		if want != nil {
			is(t, graph.Leads(m, i), want, "Leads", i)
		}
	}
	for _, i := range outside(m) {
		is(t, graph.Leads(m, i), []int(nil), "Leads", i)
	}
}

func TestTakes(t *testing.T) {
	m := with(1,
		state(exts(), accept), state(exts(one(0)), accept), state(exts(one(4)), reject), state(exts(one(6), one(6)), 0), state(exts(another(1)), accept), state(exts(another(3), another(3), another(3)), accept), state(exts(skip(1)), accept), state(exts(skip(64)), accept), state(exts(one(0), another(1), skip(7), one(4)), 1, 2, 3))
	for i, want := range [][2]int{{0, 1}, {14, 2}, {44, 2}, {88, 3}, {4, 2}, {66, 4}, {1, 2}, {64, 2}, {69, 5}} {
		is(t, tellTakes(graph.Takes(m, i)), want, "Takes", i)
	}
	for _, i := range outside(m) {
		is(t, tellTakes(graph.Takes(m, i)), [2]int{}, "Takes", i)
	}
}

// outside are numbers of no state.
func outside(m api.Image) []int {
	return []int{-1, -2, -3, -1 << 63, len(m.States), len(m.States) + 1, 1<<63 - 1}
}

// An image may have a wrong key, and its states are told all the same.
func TestStatesOfWrongKeys(t *testing.T) {
	m := ground.Image()
	is(t, graph.Leads(m, 0), []int{1, 2})
	is(t, graph.Leads(m, 1), []int{1})
	is(t, graph.Leads(m, 2), []int{0, 3})
	is(t, len(graph.Leads(m, 3)), 0)
	is(t, tellTakes(graph.Takes(m, 2)), [2]int{44 + 64 + 22 + 44, 5})
}

// What is handed in is neither changed nor kept, and what is told is new memory.
func TestMemory(t *testing.T) {
	fresh := func() api.Image {
		return with(4, state(exts(one(0)), 1, 3), state(exts(one(4)), 2, 0), asks(state(exts(), 1), field(0, 2)), state(exts(), 2))
	}
	m := fresh()
	first, err := graph.Check(m)
	if err != nil {
		t.Fatal(err)
	}
	second, _ := graph.Check(m)
	leads, again := graph.Leads(m, 0), graph.Leads(m, 0)
	is(t, reflect.DeepEqual(m, fresh()), true, "the image as it was")
	want := modelOf(m).check().f
	clear(m.States)
	clear(m.Insts)
	is(t, first, want, "the image was cleared")
	clear(first.Seen[:cap(first.Seen)])
	clear(first.Sets[:cap(first.Sets)])
	is(t, second, want, "the first answer was cleared")
	clear(leads[:cap(leads)])
	is(t, again, []int{1, 3}, "the first answer was cleared")
	if _, err := graph.Check(fresh()); err != nil {
		t.Fatal(err)
	}
	_, one := graph.Check(ground.Image())
	_, other := graph.Check(ground.Image())
	if one.(*typing.Wrong) == other.(*typing.Wrong) {
		t.Error("one error twice")
	}
}

// Each image here has no flaw.
func TestHasNoFlaw(t *testing.T) {
	is(t, image.Check(with(1, state(exts(), accept, reject))), nil)
}
