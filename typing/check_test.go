package typing_test

import (
	"slices"
	"testing"

	"shunter/api"
	"shunter/ground"
	"shunter/image"
	"shunter/typing"
)

// Promise 14.2: an image whose code fits together.

func fittingWith(in func(m *api.Image)) api.Image {
	m := fitting()
	in(&m)
	return m
}

func TestCheckOfWhatFits(t *testing.T) {
	for i, m := range []api.Image{ground.LeastImage(), fitting(), fittingWith(func(m *api.Image) { m.Actions[2].Code = nil }), fittingWith(func(m *api.Image) { m.Ingress, m.Egress = nil, nil })} {
		is(t, checked(t, m), typing.Wrong{}, "Check", i)
	}
	is(t, checked(t, fittingWith(func(m *api.Image) {
		m.Actions = append(m.Actions, ground.Several(api.Action{Params: []int{8}, Code: of(op(api.OpParam), op(api.OpPutMeta, 1))}, 23, func(x *api.Action, s string) { x.Name = s })...)
		m.Egress = slices.Repeat([]api.Node{{Kind: api.NodeIf, Code: of(push(1)), Yes: 32, No: 32}}, 32)
	})), typing.Wrong{}, "as much as there may be")
}

// Each operation there is lies in what fits, so that nothing is let through by the way.
func TestFittingHasEachOperation(t *testing.T) {
	seen := map[api.Op]bool{}
	for _, a := range fitting().Actions {
		for _, x := range a.Code {
			seen[x.Op] = true
		}
	}
	is(t, len(seen), int(api.Ops), "operations")
}

func TestCheckOfFlaws(t *testing.T) {
	for i, in := range ground.Flaws() {
		for _, m := range []api.Image{ground.Changed(in), fittingWith(in)} {
			if image.Check(m) == nil {
				t.Fatal("no flaw:", i)
			}
			is(t, checked(t, m), typing.Wrong{E: api.ErrArg}, "Check of the flaw", i)
		}
	}
	is(t, checked(t, api.Image{}), typing.Wrong{E: api.ErrArg}, "Check of a zero image")
}

func TestCheckTellsWhere(t *testing.T) {
	for i, c := range []struct {
		in   func(m *api.Image)
		want typing.Wrong
	}{
		// Of an action the empty stack is wanted.
		{func(m *api.Image) { m.Actions[0].Code = of(push(8), push(9), op(api.OpAdd)) }, typing.Wrong{Part: 5, N: 0, At: 2, E: api.ErrWidth}},
		{func(m *api.Image) { m.Actions[0].Code = of(push(1)) }, typing.Wrong{Part: 5, N: 0, At: 1, E: api.ErrStack}},
		{func(m *api.Image) { m.Actions[8].Code = of(push(1)) }, typing.Wrong{Part: 5, N: 8, At: 1, E: api.ErrStack}},
		{func(m *api.Image) { m.Actions[4].Code = of(op(api.OpNot)) }, typing.Wrong{Part: 5, N: 4, At: 0, E: api.ErrStack}},
		{func(m *api.Image) { m.Actions[4].Code = of(push(8), op(api.OpPutMeta, 0)) }, typing.Wrong{Part: 5, N: 4, At: 1, E: api.ErrKind}},
		{func(m *api.Image) { m.Actions[4].Code = append(pushes(1, 2, 3, 4, 5, 6, 7, 8), push(9)) }, typing.Wrong{Part: 5, N: 4, At: 8, E: api.ErrStack}},
		// An action's parameters are of its own widths.
		{func(m *api.Image) { m.Actions[1].Code[1].A = 9 }, typing.Wrong{Part: 5, N: 1, At: 1, E: api.ErrWidth}},
		{func(m *api.Image) { m.Actions[3].Code = of(op(api.OpParam, 7), op(api.OpPutMeta, 1)) }, typing.Wrong{}},
		{func(m *api.Image) { m.Actions[3].Code = of(op(api.OpParam, 6), op(api.OpPutMeta, 1)) }, typing.Wrong{Part: 5, N: 3, At: 1, E: api.ErrWidth}},
		// Of a node one truth is wanted.
		{func(m *api.Image) { m.Ingress[1].Code = nil }, typing.Wrong{Part: 7, N: 1, At: 0, E: api.ErrStack}},
		{func(m *api.Image) { m.Ingress[1].Code = of(push(2)) }, typing.Wrong{Part: 7, N: 1, At: 1, E: api.ErrStack}},
		{func(m *api.Image) { m.Ingress[1].Code = of(push(1), push(1)) }, typing.Wrong{Part: 7, N: 1, At: 2, E: api.ErrStack}},
		{func(m *api.Image) { m.Ingress[1].Code = of(push(1), push(1), op(api.OpStop)) }, typing.Wrong{Part: 7, N: 1, At: 2, E: api.ErrStack}},
		{func(m *api.Image) { m.Ingress[1].Code = of(push(3), push(3), op(api.OpLess)) }, typing.Wrong{}},
		{func(m *api.Image) { m.Egress[1].Code = nil }, typing.Wrong{Part: 8, N: 1, At: 0, E: api.ErrStack}},
		{func(m *api.Image) { m.Egress[1].Code = of(push(3), push(4), op(api.OpLess)) }, typing.Wrong{Part: 8, N: 1, At: 2, E: api.ErrWidth}},
		{func(m *api.Image) { m.Egress[4].Code = of(op(api.OpStop)) }, typing.Wrong{Part: 8, N: 4, At: 0, E: api.ErrStack}},
		// Parts and things come in their order.
		{func(m *api.Image) {
			m.Actions[7].Code, m.Actions[6].Code, m.Ingress[1].Code = of(op(api.OpNot)), of(push(8)), nil
		}, typing.Wrong{Part: 5, N: 6, At: 1, E: api.ErrStack}},
		{func(m *api.Image) { m.Actions[8].Code, m.Ingress[1].Code = of(op(api.OpNot)), nil }, typing.Wrong{Part: 5, N: 8, At: 0, E: api.ErrStack}},
		{func(m *api.Image) { m.Ingress[1].Code, m.Egress[1].Code = of(push(8)), nil }, typing.Wrong{Part: 7, N: 1, At: 1, E: api.ErrStack}},
		{func(m *api.Image) { m.Egress[4].Code, m.Egress[1].Code = nil, of(push(8)) }, typing.Wrong{Part: 8, N: 1, At: 1, E: api.ErrStack}},
	} {
		m := fittingWith(c.in)
		if err := image.Check(m); err != nil {
			t.Fatal("a flaw:", i, err)
		}
		is(t, checked(t, m), c.want, "Check", i)
	}
}

// Promise 14.2: Check is Code of each, in their order.
func TestCheckIsCode(t *testing.T) {
	l := append(ground.Images(), fitting())
	for i := range 200 {
		seed := uint64(i)
		l = append(l, fittingWith(func(m *api.Image) {
			for n := range m.Actions {
				if below(&seed, 4) == 0 {
					m.Actions[n].Code = either(&seed, *m, m.Actions[n].Params, nil)
				}
			}
			for _, nodes := range [][]api.Node{m.Ingress, m.Egress} {
				for n := range nodes {
					if nodes[n].Kind == api.NodeIf && below(&seed, 2) == 0 {
						nodes[n].Code = either(&seed, *m, nil, []int{1})
					}
				}
			}
		}))
	}
	parts := map[int]int{}
	for i, m := range l {
		want := firstWrong(m)
		parts[want.Part]++
		is(t, checked(t, m), want, "Check", i)
	}
	if parts[0] < 5 || parts[5] < 50 || parts[7] < 10 || parts[8] < 5 {
		t.Error("too few of a part:", parts)
	}
}

// either mostly fits together.
func either(seed *uint64, m api.Image, params, want []int) []api.Ins {
	if below(seed, 6) == 0 {
		return mixed(seed, m, params, want)
	}
	return made(seed, m, params, want)
}

func firstWrong(m api.Image) typing.Wrong {
	for i, a := range m.Actions {
		if got := tell(typing.Code(m, a.Params, a.Code, nil)); got.e != api.OK {
			return typing.Wrong{Part: 5, N: i, At: got.at, E: got.e}
		}
	}
	for i, nodes := range [][]api.Node{m.Ingress, m.Egress} {
		for n, x := range nodes {
			if got := tell(typing.Code(m, nil, x.Code, []int{1})); x.Kind == api.NodeIf && got.e != api.OK {
				return typing.Wrong{Part: 7 + i, N: n, At: got.at, E: got.e}
			}
		}
	}
	return typing.Wrong{}
}
