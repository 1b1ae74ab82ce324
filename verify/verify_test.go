package verify_test

import (
	"slices"
	"testing"

	"shunter/api"
	"shunter/graph"
	"shunter/ground"
	"shunter/image"
	"shunter/paths"
	"shunter/typing"
	"shunter/verify"
)

// The chapter's example, and those of the whole.
func TestExamples(t *testing.T) {
	m := api.Image{Name: "m", States: []api.State{{Name: "s", Next: api.Accept}}, Ports: 1, Depth: 1}
	got, e := holds(t, m)
	is(t, e, told{})
	is(t, []int{got.bound, got.growth}, []int{1, 0})
	is(t, got.parser.Steps, 1)
	for i, c := range []struct {
		l    []api.Ins
		want told
	}{
		{of(push(8), push(9), op(api.OpAdd)), told{api.ErrWidth, 5, 0, 2}},
		{of(get(0), op(api.OpCast, 8), op(api.OpPutMeta, 1)), told{api.ErrValid, 5, 0, 0}},
		{of(op(api.OpJump)), told{api.ErrLoop, 5, 0, -1}},
		{of(op(api.OpAdd)), told{api.ErrStack, 5, 0, 0}},
	} {
		_, e := holds(t, least(func(m *api.Image) {
			m.Actions, m.Ingress = []api.Action{{Name: "a", Code: c.l}}, nodes(do(0, 1))
		}))
		is(t, e, c.want, i)
	}
}

// Promise 18.2: all that is known of an image.
func TestProof(t *testing.T) {
	got, e := ask(t, ground.Right())
	is(t, e, told{})
	eth, ip := set(0), set(0, 4)
	is(t, got, known{
		m:       ground.Right(),
		parser:  graph.Facts{Seen: yes(4), Sets: sets(0, eth, eth, ip), Accept: ip, Accepts: true, Bytes: 14 + 29*5 + 44 + 67, Steps: 2 + 29*3 + 2 + 4},
		ingress: paths.Facts{Seen: yes(6), Sets: sets(ip, ip, set(0, 4, 6), set(0, 4, 6), ip, set(0, 4, 5)), Out: set(4), Steps: 6 + 1 + 4 + 10 + 1 + 51},
		egress:  paths.Facts{Seen: []bool{true, true, true, true, false, true}, Sets: sets(set(4), ip, ip, set(4), 0, set(4)), Out: set(4), Steps: 1 + 3 + 6 + 4 + 65},
		bound:   5 * (95 + 2 + 73 + 11 + 65*(79+11)),
		growth:  5 * (44 + 14 + 3*4 + 22 + 44),
	})
}

// Promise 18.2: each thing that counts for the bound.
func TestBound(t *testing.T) {
	loop := func(m *api.Image) { m.States[0].Next = 0 }
	taking := func(m *api.Image) { m.States[0].Exts = exts(one(0), next(1), next(1), next(1)) }
	for i, c := range []struct {
		in   []func(m *api.Image)
		want int
	}{
		{nil, 1},
		// The parser's steps.
		{[]func(m *api.Image){taking}, 5}, {[]func(m *api.Image){loop}, 1}, {[]func(m *api.Image){loop, func(m *api.Image) { m.Depth = 32 }}, 32}, {[]func(m *api.Image){loop, taking, func(m *api.Image) { m.Depth = 32 }}, 160}, {[]func(m *api.Image){func(m *api.Image) { m.States[0].Next = api.Reject }}, 1},
		// Checksums that are checked.
		{[]func(m *api.Image){func(m *api.Image) { m.Checks = []api.Sum{{}} }}, 2}, {[]func(m *api.Image){func(m *api.Image) { m.Checks = []api.Sum{{}, {Slot: 4}, {}, {}} }}, 5},
		// The ingress, on its way with the most steps.
		{[]func(m *api.Image){func(m *api.Image) { m.Ingress = nodes(do(0, 1)) }}, 2}, {[]func(m *api.Image){func(m *api.Image) { m.Ingress = nodes(when(of(push(1)), 1, 2), do(2, 2), do(0, 3)) }}, 1 + 2 + 2 + 1}, {[]func(m *api.Image){func(m *api.Image) { m.Ingress = nodes(do(0, 2), do(2, 2), do(0, 3)) }}, 1 + 2},
		// The egress, of each copy.
		{[]func(m *api.Image){func(m *api.Image) { m.Egress = nodes(do(0, 1)) }}, 1 + 65}, {[]func(m *api.Image){func(m *api.Image) { m.Egress = nodes(do(2, 1), when(of(push(1)), 2, 2)) }}, 1 + 65*4},
		// What is put together: once to go round again, and for each copy.
		{[]func(m *api.Image){func(m *api.Image) { m.Deparse = []int{0} }}, 1 + 66}, {[]func(m *api.Image){func(m *api.Image) { m.Deparse = []int{4, 0, 2} }}, 1 + 66*3}, {[]func(m *api.Image){func(m *api.Image) { m.Updates = []api.Sum{{}} }}, 1 + 66}, {[]func(m *api.Image){func(m *api.Image) { m.Updates = []api.Sum{{}, {}, {Slot: 3}} }}, 1 + 66*3},
		{[]func(m *api.Image){func(m *api.Image) { m.Updates, m.Deparse = []api.Sum{{}, {}}, []int{1, 2, 3} }}, 1 + 66*5},
		// What is told to no one, and how many ports there are, counts nothing.
		{[]func(m *api.Image){func(m *api.Image) {
			m.Ports, m.Metas, m.Regs = 64, []api.Field{{Name: "m", W: 9}}, []api.Reg{{Name: "r", W: 8, Log: 8}}
		}}, 1},
		// All together.
		{[]func(m *api.Image){taking, func(m *api.Image) {
			m.Checks, m.Updates, m.Deparse, m.Ingress, m.Egress = []api.Sum{{}, {}}, []api.Sum{{}}, []int{0, 1, 2}, nodes(do(1, 1)), nodes(do(0, 1))
		}}, 5 + 2 + 3 + 4 + 65*(1+4)},
	} {
		for rounds := range 5 {
			m := least(func(m *api.Image) {
				m.Rounds = rounds
				for _, in := range c.in {
					in(m)
				}
			})
			got, e := holds(t, m, i)
			is(t, e, told{}, i)
			is(t, got.bound, (rounds+1)*c.want, "the bound", i, rounds)
		}
	}
}

// Promise 18.2: what the headers that go out have at most.
func TestGrowth(t *testing.T) {
	vary := api.Header{Name: "v", Fields: []api.Field{{Name: "a", W: 8}, {Name: "b", W: 128}}, Var: 64, Mul: 64, Sub: 4096}
	for i, c := range []struct {
		in   func(m *api.Image)
		want int
	}{
		{func(m *api.Image) {}, 0},
		{func(m *api.Image) { m.Deparse = []int{0} }, 2}, {func(m *api.Image) { m.Deparse = []int{3, 1} }, 4}, {func(m *api.Image) { m.Deparse = []int{0, 1, 2, 3, 4} }, 10},
		// Of a header of which some varies the most; of an instance what its header has.
		{func(m *api.Image) { m.Headers[0] = vary; m.Deparse = []int{0} }, 17 + 64},
		{func(m *api.Image) {
			m.Headers = append(m.Headers, vary)
			m.Insts[1].Header = 1
			m.Deparse = []int{1, 0, 2}
		}, 81 + 2 + 81},
		{func(m *api.Image) { m.Headers = append(m.Headers, vary); m.Insts[0].Header = 1; m.Deparse = []int{1} }, 2},
		// What doesn't go out is of no matter, be it taken, shown, or a checksum's.
		{func(m *api.Image) {
			m.States[0].Exts, m.Ingress, m.Checks, m.Updates = exts(one(0)), nodes(do(2, 1)), []api.Sum{{}}, []api.Sum{{}}
		}, 0},
	} {
		for rounds := range 5 {
			m := least(c.in)
			m.Rounds = rounds
			got, e := holds(t, m, i)
			is(t, e, told{}, i)
			is(t, got.growth, (rounds+1)*c.want, "the growth", i, rounds)
		}
	}
}

// Promise 18.3: as much as there may be.
func TestGreatest(t *testing.T) {
	got, e := holds(t, greatest())
	is(t, e, told{})
	is(t, got.bound, 5*(32*5+4+32*66+36+65*(32*66+36)))
	is(t, got.growth, 5*32*(15*16+2+64))
	is(t, got.bound <= 1<<32, true)
}

// What one layer leaves there is handed to the one behind it.
func TestHandedOn(t *testing.T) {
	took := func(m *api.Image) { m.States[0].Exts = exts(one(0)) }
	reject := func(m *api.Image) { m.States[0].Next = api.Reject }
	in := func(l ...api.Node) func(m *api.Image) { return func(m *api.Image) { m.Ingress = l } }
	out := func(l ...api.Node) func(m *api.Image) { return func(m *api.Image) { m.Egress = l } }
	get1, equal := do(1, 1), when(of(get(0), get(0), op(api.OpEq)), 1, 1)
	ok := told{}
	for i, c := range []struct {
		in   []func(m *api.Image)
		want told
	}{
		// The ingress has what the parser found when it Accepted.
		{[]func(m *api.Image){took, in(get1)}, ok}, {[]func(m *api.Image){in(get1)}, told{api.ErrValid, 5, 1, 0}}, {[]func(m *api.Image){in(equal)}, told{api.ErrValid, 7, 0, 0}},
		{[]func(m *api.Image){took, in(get1), reject}, ok}, {[]func(m *api.Image){in(get1), reject}, ok},
		{[]func(m *api.Image){in(get1), func(m *api.Image) {
			m.States = append(m.States, api.State{Name: "t", Exts: exts(one(0)), Next: api.Accept})
			m.States[0].Keys, m.States[0].Cases, m.States[0].Next = keys(meta(0)), []api.Case{{Value: api.Vec{W: 8}, Mask: api.Vec{W: 8}, Next: 1}}, api.Reject
		}}, ok},
		{[]func(m *api.Image){in(get1), func(m *api.Image) {
			m.States = append(m.States, api.State{Name: "t", Exts: exts(one(0)), Next: api.Accept})
			m.States[0].Keys, m.States[0].Cases = keys(meta(0)), []api.Case{{Value: api.Vec{W: 8}, Mask: api.Vec{W: 8}, Next: 1}}
		}}, told{api.ErrValid, 5, 1, 0}},
		{[]func(m *api.Image){in(do(2, 1), do(1, 2))}, ok}, {[]func(m *api.Image){in(valid(0, 1, 2), do(1, 2))}, ok}, {[]func(m *api.Image){took, in(do(3, 1), do(1, 2))}, told{api.ErrValid, 5, 1, 0}},
		// The egress has what is there behind the ingress.
		{[]func(m *api.Image){took, out(get1)}, ok}, {[]func(m *api.Image){out(get1)}, told{api.ErrValid, 5, 1, 0}}, {[]func(m *api.Image){out(equal)}, told{api.ErrValid, 8, 0, 0}}, {[]func(m *api.Image){out(get1), reject}, ok},
		{[]func(m *api.Image){in(do(2, 1)), out(get1)}, ok}, {[]func(m *api.Image){took, in(do(3, 1)), out(get1)}, told{api.ErrValid, 5, 1, 0}}, {[]func(m *api.Image){took, in(do(3, 1)), out(equal)}, told{api.ErrValid, 8, 0, 0}}, {[]func(m *api.Image){took, in(do(3, 1)), out(get1), reject}, told{api.ErrValid, 5, 1, 0}},
		{[]func(m *api.Image){took, in(valid(0, 1, 1)), out(get1)}, told{api.ErrValid, 5, 1, 0}}, {[]func(m *api.Image){took, in(valid(4, 2, 1), do(3, 2)), out(valid(0, 1, 2), do(1, 2))}, ok},
		// What the egress leaves there comes to nothing again: the next round begins with none.
		{[]func(m *api.Image){in(get1), out(do(2, 1)), func(m *api.Image) { m.Rounds = 4 }}, told{api.ErrValid, 5, 1, 0}},
	} {
		_, e := holds(t, least(func(m *api.Image) {
			for _, in := range c.in {
				in(m)
			}
		}), i)
		is(t, e, c.want, i)
	}
}

// Promise 18.1: of the layers in order the first one's, all that may be wrong together.
func TestOrder(t *testing.T) {
	faults := []struct {
		in   func(m *api.Image)
		want told
	}{
		{func(m *api.Image) { m.Meters[1].Burst = 0 }, told{api.ErrRange, 14, 1, -1}},
		{func(m *api.Image) {
			m.Egress[1].Code = of(op(api.OpMeta, api.MetaAgain), op(api.OpNot), op(api.OpCast, 2))
		}, told{api.ErrStack, 8, 1, 3}},
		{func(m *api.Image) { m.States[3].Keys = keys(meta(0), field(5, 1)) }, told{api.ErrValid, 4, 3, 1}},
		{func(m *api.Image) { m.Ingress[4].No = 5 }, told{api.ErrValid, 7, 5, 0}},
		{func(m *api.Image) { m.Egress[0] = when(of(push(1), op(api.OpField, 3, 1), op(api.OpEq)), 1, 3) }, told{api.ErrValid, 8, 0, 1}},
	}
	for some := range 1 << len(faults) {
		var want told
		m := right(func(m *api.Image) {
			for i, f := range slices.Backward(faults) {
				if some>>i&1 == 1 {
					f.in(m)
					want = f.want
				}
			}
		})
		_, e := holds(t, m, some)
		is(t, e, want, some)
	}
}

// Promise 18.1: where something isn't so.
func TestWhere(t *testing.T) {
	for i, c := range []struct {
		in   func(m *api.Image)
		want told
	}{
		{func(m *api.Image) { m.Name = "" }, told{api.ErrForm, 0, 0, -1}}, {func(m *api.Image) { m.States = nil }, told{api.ErrNone, 4, 0, -1}}, {func(m *api.Image) { m.Egress[5].Yes = 5 }, told{api.ErrLoop, 8, 5, -1}}, {func(m *api.Image) { m.Counters[2].Log = 9 }, told{api.ErrRange, 13, 2, -1}},
		{func(m *api.Image) { m.Actions[8].Code = of(push(1)) }, told{api.ErrStack, 5, 8, 1}}, {func(m *api.Image) { m.Actions[0].Code[1].A = 0 }, told{api.ErrKind, 5, 0, 1}}, {func(m *api.Image) { m.Ingress[2].Code[1].V.W = 9 }, told{api.ErrWidth, 7, 2, 2}}, {func(m *api.Image) { m.Egress[1].Code = nil }, told{api.ErrStack, 8, 1, 0}},
		{func(m *api.Image) { m.States[1].Keys[0] = field(1, 3) }, told{api.ErrValid, 4, 1, 0}}, {func(m *api.Image) { m.States[0].Exts = nil }, told{api.ErrValid, 4, 0, 0}}, {func(m *api.Image) {
			m.States[2].Keys = keys(field(0, 2), meta(1), field(4, 0), field(6, 0))
			m.States[2].Cases = nil
		}, told{api.ErrValid, 4, 2, 3}},
		{func(m *api.Image) { m.Ingress[1].No = 2 }, told{api.ErrValid, 7, 2, 0}}, {func(m *api.Image) { m.Tables[0].Keys = keys(field(4, 0), meta(1), field(6, 0)) }, told{api.ErrValid, 7, 0, 2}},
		{func(m *api.Image) { m.Actions[2].Code = of(show(3), op(api.OpField, 6, 2), op(api.OpPutMeta, 1)) }, told{api.ErrValid, 5, 2, 1}}, {func(m *api.Image) { m.Actions[5].Code = m.Actions[5].Code[5:] }, told{api.ErrValid, 5, 5, 1}}, {func(m *api.Image) { m.Actions[5].Code = m.Actions[5].Code[5:]; m.Tables[1].Actions = []int{8, 2} }, told{}},
		{func(m *api.Image) { m.Egress[0].No = 2 }, told{api.ErrValid, 8, 2, 0}}, {func(m *api.Image) { m.Egress[3].No = 4 }, told{api.ErrValid, 8, 4, 0}}, {func(m *api.Image) { m.Tables[2].Keys = m.Tables[2].Keys[1:]; m.Egress[3].Yes = 4 }, told{api.ErrValid, 8, 4, 1}},
	} {
		_, e := holds(t, right(c.in), i)
		is(t, e, c.want, i)
	}
}

// Promise 18.1: each flaw there is, and that it is layer 10's.
func TestFlaws(t *testing.T) {
	l := []api.Image{{}}
	for _, in := range ground.Flaws() {
		l = append(l, ground.Changed(in))
	}
	for i, m := range l {
		_, err := verify.Verify(m)
		f, ok := err.(*image.Flaw)
		is(t, ok && f != nil, true, i)
		is(t, err, image.Check(m), i)
		is(t, tell(verify.Why(err)), told{f.E, f.Part, f.N, -1}, i)
	}
}

// Promise 18.1: what is wrong is layer 14's type.
func TestWrongs(t *testing.T) {
	for i, m := range []api.Image{ground.Image(), least(func(m *api.Image) { m.States[0].Keys = keys(field(0, 0)) }), least(func(m *api.Image) { m.Ingress = nodes(do(1, 1)) }), least(func(m *api.Image) { m.Egress = nodes(do(1, 1)) })} {
		p, err := verify.Verify(m)
		w, ok := err.(*typing.Wrong)
		is(t, ok && w != nil && p == nil, true, i)
		is(t, tell(verify.Why(err)), told{w.E, w.Part, w.N, w.At}, i)
	}
}

// Promise 18.3: a copy is right, and as it is what was handed in.
func TestCopiesAreRight(t *testing.T) {
	l := append(ground.Images(), ground.Right(), greatest(), least(func(m *api.Image) {}))
	rights := 0
	for i, m := range l {
		got, e := holds(t, m, i)
		other, again := holds(t, image.Copy(m), i)
		is(t, again, e, "the copy", i)
		is(t, other, got, "the copy", i)
		if e == (told{}) {
			is(t, image.Same(got.m, m), true, "the image", i)
			once, _ := ask(t, got.m)
			is(t, once, got, "the proof's image", i)
			rights++
		}
	}
	if rights < 4 {
		t.Error("too few are right:", rights)
	}
}

// Lists that are empty, and none, are one.
func TestEmptyLists(t *testing.T) {
	got, e := ask(t, api.Image{Name: "m", States: []api.State{{Name: "s", Next: api.Accept, Exts: exts(), Keys: keys(), Cases: []api.Case{}}}, Ports: 1, Depth: 1, Ingress: nodes(), Egress: nodes(), Deparse: []int{}, Checks: []api.Sum{}, Updates: []api.Sum{}, Actions: []api.Action{}, Headers: []api.Header{}, Insts: []api.Inst{}})
	is(t, e, told{})
	want, _ := ask(t, ground.LeastImage())
	is(t, image.Same(got.m, want.m), true)
	got.m = want.m
	is(t, got, want)
}

// Promise 18.2: of no proof.
func TestNoProof(t *testing.T) {
	var p *verify.Proof
	is(t, all(p), known{})
}
