package paths_test

import (
	"math"
	"slices"
	"testing"

	"shunter/api"
	"shunter/flow"
	"shunter/ground"
	"shunter/image"
	"shunter/paths"
	"shunter/typing"
)

// The actions of the tests by hand.
const (
	nothing = iota
	show0
	hide0
	show4
	get0
	late6
	pushes
	pops
	guarded
	odd
	long
)

func actions() [][]api.Ins {
	return [][]api.Ins{
		nil, of(show(0)), of(hide(0)), of(show(4)), of(get(0)), of(push(), zero(3), show(0), put(6)), of(op(api.OpPushHead, 1, 1)), of(op(api.OpPopHead, 1, 1)),
		of(gone(4, 3), get(4), show(6)), of(zero(2), stop(), show(5), hide(1)), slices.Repeat(of(push()), 64),
	}
}

var byMeta = meta(api.MetaIn)

// tables: the first one does nothing; the others have keys, or actions, of which something may be told.
func tables() []api.Table {
	return []api.Table{
		table(keys(byMeta), nothing, nothing),
		table(keys(byMeta), show4, show0, show4),
		table(keys(field(0, 2), byMeta), nothing, nothing),
		table(keys(byMeta, field(4, 1), field(6, 1)), nothing, nothing),
		table(keys(byMeta), late6, show0, late6, get0),
		table(keys(byMeta, field(0, 2)), get0, guarded, get0, late6),
		table(keys(byMeta), odd, nothing, show0, hide0, show4, pushes, pops, long, odd),
		table(keys(field(5, 0)), show0, show0, show4),
	}
}

// kind are the tables' places.
const (
	plain = iota
	shows
	key0
	key46
	lates
	gets
	many8
	key5
)

func yes(n int) []bool { return slices.Repeat([]bool{true}, n) }

func facts(seen []bool, l []flow.Set, out flow.Set, steps int) told {
	return told{f: paths.Facts{Seen: seen, Sets: l, Out: out, Steps: steps}}
}

func wrong(part, n, at int) told {
	return told{w: typing.Wrong{Part: part, N: n, At: at, E: api.ErrValid}}
}

// asEgress is what is told of the same nodes in the egress.
func asEgress(x told) told {
	if x.w.Part == 7 {
		x.w.Part = 8
	}
	return x
}

type byHand struct {
	l    []api.Node
	in   flow.Set
	want told
}

// hold asks for the nodes in each of the controls, and asks the model too.
func hold(t *testing.T, cases []byHand) {
	t.Helper()
	for i, c := range cases {
		m := with(actions(), tables(), c.l)
		if err := image.Check(m); err != nil {
			t.Fatal(i, err)
		}
		is(t, tell(paths.Control(m, false, c.in)), c.want, i)
		is(t, tell(paths.Control(turned(m), true, c.in)), asEgress(c.want), "the egress:", i)
		is(t, modelOf(m, false).control(c.in), c.want, "the model:", i)
	}
}

func TestExamples(t *testing.T) {
	for _, in := range []flow.Set{0, 5, 1 << 63, full} {
		for _, egress := range []bool{false, true} {
			is(t, tell(paths.Control(ground.LeastImage(), egress, in)), facts(nil, nil, in, 0))
		}
	}
	hold(t, []byHand{{nil, set(3), facts(nil, nil, set(3), 0)}})
}

// Promise 17.1: one node of each kind, and what it does to what is there.
func TestOneNode(t *testing.T) {
	one := func(n api.Node, in, out flow.Set, steps int) byHand {
		return byHand{nodes(n), in, facts(yes(1), sets(in), out, steps)}
	}
	hold(t, []byHand{
		// By both ways of a Valid the slot is there, and isn't.
		one(valid(4, 1, 1), 0, 0, 1), one(valid(4, 1, 1), set(4), 0, 1), one(valid(4, 1, 1), full, full&^set(4), 1), one(valid(0, 1, 1), set(1), set(1), 1),
		// Code of an If.
		one(when(nil, 1, 1), set(2, 63), set(2, 63), 1), one(when(of(push(), show(4)), 1, 1), set(2), set(2, 4), 3), one(when(of(hide(4)), 1, 1), full, full&^set(4), 2), one(when(of(gone(4, 2), show(5), show(0)), 1, 1), set(5), set(0, 5), 4), one(when(of(stop(), hide(0)), 1, 1), set(0), set(0), 3), one(when(of(get(4), put(0)), 1, 1), set(0, 4), set(0, 4), 3),
		// An action.
		one(do(nothing, 1), set(2), set(2), 1), one(do(show0, 1), set(2), set(0, 2), 2), one(do(hide0, 1), set(0, 1, 63), set(1, 63), 2), one(do(get0, 1), set(0, 1), set(0, 1), 2), one(do(pushes, 1), set(0, 1, 2, 4), set(0, 2, 3, 4), 2), one(do(pops, 1), set(0, 1, 2, 4), set(0, 1, 4), 2), one(do(odd, 1), set(1, 2), set(2), 5), one(do(odd, 1), set(5), set(5), 5), one(do(guarded, 1), set(4), set(), 4), one(do(guarded, 1), set(6), set(6), 4), one(do(late6, 1), set(6), set(6), 5), one(do(long, 1), set(6), set(6), 65),
		// A table's: behind any of its actions and, at the end here, behind the default one.
		one(apply(plain, 1, 1), set(2), set(2), 2), one(apply(shows, 1, 1), set(2), set(2), 3), one(apply(shows, 1, 1), set(0, 2), set(0, 2), 3), one(apply(shows, 1, 1), full, full, 3), one(apply(key0, 1, 1), set(0), set(0), 2), one(apply(key46, 1, 1), set(4, 6), set(4, 6), 2), one(apply(many8, 1, 1), full, full&^set(0, 1, 3), 66), one(apply(many8, 1, 1), set(2, 3, 4), set(4), 66), one(apply(gets, 1, 1), set(0, 6), set(0, 6), 6), one(apply(lates, 1, 1), set(0, 6), set(0, 6), 6), one(apply(key5, 1, 1), set(5), set(5), 3),
	})
}

// Promise 17.1: what is brought to Yes, and what to No.
func TestYesAndNo(t *testing.T) {
	idle := when(nil, 2, 2)
	two := func(n api.Node, in, yes, no, out flow.Set, steps int) []byHand {
		n.Yes, n.No = 1, 2
		toYes := byHand{nodes(n, idle), in, facts([]bool{true, true}, sets(in, yes), out, steps+1)}
		n.Yes, n.No = 2, 1
		return []byHand{toYes, {nodes(n, idle), in, facts([]bool{true, true}, sets(in, no), out, steps+1)}}
	}
	hold(t, slices.Concat(
		two(valid(4, 0, 0), 0, set(4), 0, 0, 1), two(valid(4, 0, 0), set(0, 4), set(0, 4), set(0), set(0), 1), two(valid(6, 0, 0), full, full, full&^set(6), full&^set(6), 1),
		two(when(of(show(4)), 0, 0), set(1), set(1, 4), set(1, 4), set(1, 4), 2), two(when(of(hide(1)), 0, 0), set(1), 0, 0, 0, 2),
		two(apply(shows, 0, 0), 0, 0, set(4), 0, 3), two(apply(shows, 0, 0), set(0), set(0), set(0, 4), set(0), 3), two(apply(shows, 0, 0), set(4, 63), set(4, 63), set(4, 63), set(4, 63), 3), two(apply(key5, 0, 0), set(5), set(5), set(0, 5), set(5), 3),
		two(apply(many8, 0, 0), set(1, 2, 5), set(5), set(2, 5), set(5), 66), two(apply(lates, 0, 0), set(0, 6), set(0, 6), set(0, 6), set(0, 6), 6),
	))
	// Of a Do the No is no way: neither to the first node nor elsewhere.
	hold(t, []byHand{
		{nodes(do(hide0, 1), do(get0, 2)), set(0), wrong(5, get0, 0)},
		{nodes(do(hide0, 2), do(get0, 2)), set(0), facts([]bool{true, false}, sets(set(0), 0), 0, 2)},
		{nodes(do(show0, 1), do(get0, 2)), 0, facts(yes(2), sets(0, set(0)), set(0), 4)},
	})
}

// Promise 17.1: ways that meet, and nodes that aren't reached.
func TestWays(t *testing.T) {
	hold(t, []byHand{
		// One way has more, and the other one too.
		{nodes(valid(4, 1, 2), do(show0, 3), do(nothing, 3), when(nil, 4, 4)), 0, facts(yes(4), sets(0, set(4), 0, 0), 0, 4)},
		{nodes(valid(4, 1, 2), do(show0, 3), do(show0, 3), when(of(get(0)), 4, 4)), 0, facts(yes(4), sets(0, set(4), 0, set(0)), set(0), 5)},
		{nodes(valid(4, 1, 2), do(show0, 3), do(show4, 3), when(nil, 4, 4)), set(5), facts(yes(4), sets(set(5), set(4, 5), set(5), set(4, 5)), set(4, 5), 4)},
		{nodes(valid(4, 1, 2), do(show0, 3), do(show4, 4), when(nil, 4, 4)), 0, facts(yes(4), sets(0, set(4), 0, set(0, 4)), set(4), 4)},
		// Three ways to one node, and the ways to the end.
		{nodes(valid(1, 1, 3), valid(2, 2, 3), valid(3, 4, 3), do(nothing, 4)), 0, facts(yes(4), sets(0, set(1), set(1, 2), 0), 0, 4)},
		{nodes(valid(1, 1, 4), valid(2, 2, 4), valid(3, 4, 3), do(nothing, 4)), set(0, 1, 2, 3), facts(yes(4), sets(set(0, 1, 2, 3), set(0, 1, 2, 3), set(0, 1, 2, 3), set(0, 1, 2)), set(0), 4)},
		// A node that isn't reached is of no matter, whatever it asks for and wherever it leads.
		{nodes(valid(4, 2, 2), do(hide0, 2), do(nothing, 3)), set(0), facts([]bool{true, false, true}, sets(set(0), 0, set(0)), set(0), 2)},
		{nodes(do(nothing, 3), do(get0, 2), apply(key0, 3, 3)), 0, facts([]bool{true, false, false}, sets(0, 0, 0), 0, 1)},
		{nodes(valid(4, 3, 3), do(long, 2), when(of(get(0)), 3, 3), do(show0, 4)), 0, facts([]bool{true, false, false, true}, sets(0, 0, 0, 0), set(0), 3)},
		// The way with the most steps needn't be that with the most nodes, and that to a node needn't be the last one.
		{nodes(valid(4, 1, 2), do(long, 4), do(nothing, 3), do(nothing, 4)), 0, facts(yes(4), sets(0, set(4), 0, 0), 0, 66)},
		{nodes(valid(4, 1, 3), do(long, 3), do(nothing, 3), do(nothing, 4)), 0, facts([]bool{true, true, false, true}, sets(0, set(4), 0, 0), 0, 67)},
		{nodes(valid(4, 1, 2), do(nothing, 3), do(late6, 3), do(nothing, 4)), set(6), facts(yes(4), sets(set(6), set(4, 6), set(6), set(6)), set(6), 7)},
		{nodes(valid(4, 2, 1), do(late6, 3), do(nothing, 3), do(nothing, 4)), set(6), facts(yes(4), sets(set(6), set(6), set(4, 6), set(6)), set(6), 7)},
		{nodes(apply(many8, 1, 2), apply(plain, 2, 2), when(of(push(), push()), 3, 3)), 0, facts(yes(3), sets(0, 0, 0), 0, 71)},
	})
}

// Promise 17.1: which field that isn't surely there is told.
func TestWrong(t *testing.T) {
	hold(t, []byHand{
		// Of a key.
		{nodes(apply(key0, 1, 1)), 0, wrong(7, 0, 0)}, {nodes(apply(key0, 1, 1)), full &^ set(0), wrong(7, 0, 0)}, {nodes(apply(key46, 1, 1)), set(0), wrong(7, 0, 1)}, {nodes(apply(key46, 1, 1)), set(6), wrong(7, 0, 1)}, {nodes(apply(key46, 1, 1)), set(4), wrong(7, 0, 2)}, {nodes(do(nothing, 1), apply(key46, 2, 2)), set(4), wrong(7, 1, 2)}, {nodes(apply(key5, 1, 1)), set(1, 2, 3, 4, 6), wrong(7, 0, 0)},
		// Of code.
		{nodes(when(of(push(), push(), get(4)), 1, 1)), 0, wrong(7, 0, 2)}, {nodes(do(nothing, 1), when(of(show(0), put(6)), 2, 2)), 0, wrong(7, 1, 1)}, {nodes(when(of(gone(4, 2), get(4), get(4)), 1, 1)), 0, wrong(7, 0, 2)},
		{nodes(do(get0, 1)), 0, wrong(5, get0, 0)}, {nodes(do(nothing, 1), do(late6, 2)), 0, wrong(5, late6, 3)},
		// Of a table's actions the first one as it lists them, the default one too; and its key ahead of them.
		{nodes(apply(lates, 1, 1)), set(), wrong(5, late6, 3)}, {nodes(apply(lates, 1, 1)), set(6), wrong(5, get0, 0)}, {nodes(apply(lates, 1, 1)), set(0), wrong(5, late6, 3)},
		{nodes(apply(gets, 1, 1)), set(), wrong(7, 0, 1)}, {nodes(apply(gets, 1, 1)), set(6), wrong(7, 0, 1)}, {nodes(apply(gets, 1, 1)), set(0), wrong(5, late6, 3)},
		// The first node, whatever it is that it asks.
		{nodes(when(nil, 1, 1), do(get0, 2), apply(key0, 3, 3)), 0, wrong(5, get0, 0)}, {nodes(when(nil, 1, 1), apply(key0, 3, 3), do(get0, 3)), 0, wrong(7, 1, 0)}, {nodes(valid(4, 2, 1), when(of(get(4)), 3, 3), do(get0, 3)), 0, wrong(7, 1, 0)}, {nodes(valid(4, 1, 2), when(of(get(4)), 3, 3), do(get0, 3)), 0, wrong(5, get0, 0)},
		// By one way alone.
		{nodes(valid(0, 1, 1), do(get0, 2)), full, wrong(5, get0, 0)}, {nodes(valid(0, 1, 2), do(get0, 2)), 0, facts(yes(2), sets(0, set(0)), 0, 3)}, {nodes(valid(0, 2, 1), do(get0, 2)), full, wrong(5, get0, 0)}, {nodes(apply(shows, 2, 1), when(of(get(4)), 2, 2)), 0, facts(yes(2), sets(0, set(4)), 0, 5)}, {nodes(apply(shows, 1, 2), when(of(get(4)), 2, 2)), 0, wrong(7, 1, 0)},
		{nodes(valid(4, 1, 2), do(show0, 3), do(hide0, 3), do(get0, 4)), full, wrong(5, get0, 0)},
	})
}

// As many nodes as there may be, one behind the other, of which each does the most.
func TestGreatest(t *testing.T) {
	var l []api.Node
	for i := range api.MaxNodes {
		l = append(l, apply(many8, min(32, i+1+i%2), min(32, i+2-i%2)))
	}
	m := with(actions(), tables(), l)
	want := modelOf(m, false).control(set(5))
	is(t, tell(paths.Control(m, false, set(5))), want)
	is(t, want.f.Steps, 32*66)
	is(t, want.f.Out, set(5))
	is(t, want.f.Seen, yes(32))
}

// Promise 17.1: flaws.
func TestControlOfFlaws(t *testing.T) {
	of := []api.Image{{}}
	for _, in := range ground.Flaws() {
		of = append(of, ground.Changed(in))
	}
	for i, m := range of {
		for _, egress := range []bool{false, true} {
			is(t, tell(paths.Control(m, egress, full)), told{w: typing.Wrong{E: api.ErrArg}}, "Control: the flaw", i)
		}
		for _, action := range []int{-1, 0, 1, 9, 100} {
			is(t, tellAfter(paths.After(m, action, full)), behind{e: api.ErrArg}, "After: the flaw", i)
		}
		for _, n := range nodes(apply(0, 1, 1), when(nil, 1, 1), do(0, 1), valid(0, 1, 1)) {
			is(t, paths.Cost(m, n), 0, "Cost: the flaw", i)
		}
	}
}

// What doesn't fit together in code, or what the parser's keys ask for, is no matter of this layer.
func TestOtherPartsAreNoMatter(t *testing.T) {
	m := with([][]api.Ins{of(op(api.OpAdd), get(0))}, tables()[:1], nodes(when(of(op(api.OpCat), get(0)), 1, 1)))
	is(t, typing.Check(m) != nil, true, "typing")
	is(t, tell(paths.Control(m, false, set(0))), facts(yes(1), sets(set(0)), set(0), 3))
	is(t, tellAfter(paths.After(m, 0, set(0))), behind{s: set(0)})
}

// Code may name anything that an image has.
func TestCodeMayNameAnything(t *testing.T) {
	l := ground.EveryIns()
	m := ground.Changed(func(m *api.Image) {
		m.Actions[1].Code = slices.Concat(of(show(5), show(6)), l[:10], of(op(api.OpParam, 1)))
		m.Ingress = nodes(when(l, 1, 1), do(1, 2))
		m.Ingress[1].Args = []api.Vec{{W: 8}, {W: 128}}
	})
	ahead := full &^ set(3, 6) // behind the pop-head, and by the jump-gone
	is(t, tell(paths.Control(m, false, full)), facts(yes(2), sets(full, ahead&^set(5)), ahead&^set(5), 1+17+1+13))
	is(t, tellAfter(paths.After(m, 1, full)), behind{s: full &^ set(5, 6)})
	is(t, tellAfter(paths.After(m, 1, full)), after(m, 1, full))
}

// Promise 17.2: After.
func TestAfter(t *testing.T) {
	m := with(actions(), tables(), nil)
	for _, c := range []struct {
		action int
		s      flow.Set
		want   behind
	}{
		{nothing, 0, behind{}}, {nothing, full, behind{s: full}}, {show0, 0, behind{s: set(0)}}, {hide0, full, behind{s: full &^ set(0)}}, {get0, set(0, 63), behind{s: set(0, 63)}}, {get0, full &^ set(0), behind{e: api.ErrValid}}, {late6, set(0), behind{at: 3, e: api.ErrValid}}, {late6, set(6), behind{s: set(6)}},
		{pushes, set(1, 4), behind{s: set(2, 4)}}, {pops, set(1, 2), behind{s: set(1)}}, {guarded, set(4, 6), behind{s: set(6)}}, {odd, set(1), behind{}}, {long, set(9), behind{s: set(9)}},
		{-1, full, behind{e: api.ErrNone}}, {long + 1, full, behind{e: api.ErrNone}}, {api.MaxActions, 0, behind{e: api.ErrNone}}, {math.MaxInt, 0, behind{e: api.ErrNone}}, {math.MinInt, 0, behind{e: api.ErrNone}},
	} {
		is(t, tellAfter(paths.After(m, c.action, c.s)), c.want, "After", c.action, c.s)
	}
	for action := range actions() {
		for s := range flow.Set(128) {
			is(t, tellAfter(paths.After(m, action, s)), after(m, action, s), "After", action, s)
		}
	}
	is(t, tellAfter(paths.After(ground.LeastImage(), 0, full)), behind{e: api.ErrNone}, "no actions")
}

// Promise 17.2: Cost.
func TestCost(t *testing.T) {
	m := with(actions(), tables(), nil)
	for i, c := range []struct {
		n    api.Node
		want int
	}{
		{apply(plain, 0, 0), 2}, {apply(shows, 0, 0), 3}, {apply(lates, 0, 0), 6}, {apply(gets, 0, 0), 6}, {apply(many8, 0, 0), 66}, {apply(key5, 0, 0), 3},
		{when(nil, 0, 0), 1}, {when(of(push()), 0, 0), 2}, {when(slices.Repeat(of(push()), 64), 9, 9), 65},
		{do(nothing, 0), 1}, {do(show0, 0), 2}, {do(late6, 0), 5}, {do(long, 0), 65}, {valid(0, 0, 0), 1}, {valid(6, 0, 0), 1},
		// What it names isn't there.
		{apply(-1, 0, 0), 0}, {apply(8, 0, 0), 0}, {apply(math.MaxInt, 0, 0), 0}, {apply(math.MinInt, 0, 0), 0}, {do(-1, 0), 0}, {do(11, 0), 0}, {do(32, 0), 0}, {do(math.MinInt, 0), 0}, {valid(-1, 0, 0), 0}, {valid(7, 0, 0), 0}, {valid(32, 0, 0), 0}, {valid(math.MaxInt, 0, 0), 0},
		// Of no kind.
		{api.Node{Kind: -1}, 0}, {api.Node{Kind: api.NodeKinds}, 0}, {api.Node{Kind: math.MaxInt}, 0}, {api.Node{Kind: math.MinInt, Code: of(push())}, 0},
		// Where it leads, and what else it has, is no matter; an If names nothing.
		{api.Node{Kind: api.NodeDo, A: late6, Code: of(push()), Args: []api.Vec{{}}, Yes: -1, No: 77}, 5}, {api.Node{Kind: api.NodeValid, Code: of(push())}, 1}, {api.Node{Kind: api.NodeApply, Code: slices.Repeat(of(push()), 9)}, 2}, {api.Node{Kind: api.NodeIf, A: 99, Code: of(push())}, 2},
	} {
		is(t, paths.Cost(m, c.n), c.want, "Cost", i)
	}
	least := ground.LeastImage()
	for i, n := range nodes(apply(0, 0, 0), do(0, 0), valid(0, 0, 0)) {
		is(t, paths.Cost(least, n), 0, "Cost of the least image", i)
	}
	is(t, paths.Cost(least, when(of(get(0)), 0, 0)), 2, "Cost of the least image")
}

// What is handed in is neither changed nor kept, and what is told is new memory.
func TestMemory(t *testing.T) {
	fresh := func() api.Image {
		return with(actions(), tables(), nodes(valid(4, 1, 2), do(show0, 3), apply(shows, 3, 3), when(of(show(6)), 4, 4)))
	}
	m := fresh()
	first, err := paths.Control(m, false, set(5))
	if err != nil {
		t.Fatal(err)
	}
	second, _ := paths.Control(m, false, set(5))
	paths.After(m, guarded, 5)
	paths.Cost(m, apply(gets, 0, 0))
	is(t, m, fresh(), "the image as it was")
	want := modelOf(m, false).control(set(5)).f
	clear(m.Ingress)
	clear(m.Actions)
	clear(m.Insts)
	is(t, first, want, "the image was cleared")
	clear(first.Seen[:cap(first.Seen)])
	clear(first.Sets[:cap(first.Sets)])
	is(t, second, want, "the first answer was cleared")
	again, _ := paths.Control(fresh(), false, set(5))
	is(t, again, want, "another image")
	_, one := paths.Control(fresh(), true, 0)
	_, other := paths.Control(fresh(), true, 0)
	if one.(*typing.Wrong) == other.(*typing.Wrong) {
		t.Error("one error twice")
	}
}
