package paths_test

import (
	"testing"

	"shunter/api"
	"shunter/flow"
	"shunter/ground"
	"shunter/image"
	"shunter/paths"
	"shunter/phv"
	"shunter/typing"
)

func below(seed *uint64, n int) int { return int(ground.Number(seed) % uint64(n)) }

// many has as many slots as there may be.
func many() api.Image {
	for _, m := range ground.Images() {
		if slots(m) == 32 {
			return m
		}
	}
	panic("no such image")
}

// slots is how many slots an image has.
func slots(m api.Image) int {
	n := 0
	for _, in := range m.Insts {
		n += max(1, in.Depth)
	}
	return n
}

// mixed is an image with an ingress, and actions and tables, as they come; most of what is asked for is surely there, with a set ahead.
func mixed(seed *uint64, in flow.Set) api.Image {
	m := []api.Image{ground.Image(), many()}[below(seed, 2)]
	m.Actions = ground.Several(api.Action{}, 1+below(seed, 12), func(x *api.Action, s string) {
		x.Name, x.Code = s, mixedCode(seed, m, below(seed, 8))
	})
	m.Tables = ground.Several(api.Table{}, 1+below(seed, 8), func(x *api.Table, s string) {
		*x = mixedTable(seed, m)
		x.Name = s
	})
	m.Ingress = nil
	for n, at := below(seed, 13), 0; at < n; at++ {
		m.Ingress = append(m.Ingress, mixedNode(seed, m, at, n))
	}
	m.Egress = nodes(when(of(hide(0), get(0)), 1, 1))
	ask(seed, &m, in)
	return m
}

// mixedCode has pushes in which a field may be asked for instead.
func mixedCode(seed *uint64, m api.Image, n int) []api.Ins {
	var l []api.Ins
	for at := range n {
		slot, to := below(seed, slots(m)), at+1+below(seed, n-at)
		switch below(seed, 9) {
		case 0, 1:
			l = append(l, show(slot))
		case 2:
			l = append(l, hide(slot))
		case 3:
			l = append(l, gone(slot, to))
		case 4:
			l = append(l, []api.Ins{zero(to), zero(to), op(api.OpJump, to), stop()}[below(seed, 4)])
		case 5:
			inst := []int{1, 3}[below(seed, 2)]
			l = append(l, op([]api.Op{api.OpPushHead, api.OpPopHead}[below(seed, 2)], inst, 1+below(seed, 4)))
		default:
			l = append(l, push())
		}
	}
	return l
}

func mixedTable(seed *uint64, m api.Image) api.Table {
	var l []int
	for i := range m.Actions {
		if len(l) < api.MaxActions/4 && below(seed, 3) == 0 {
			l = append(l, i)
		}
	}
	if l == nil {
		l = []int{below(seed, len(m.Actions))}
	}
	for i := range l { // actions are told as they are listed, and that needn't be as they are numbered
		j := below(seed, i+1)
		l[i], l[j] = l[j], l[i]
	}
	return table(keys(byMeta), l[below(seed, len(l))], l...)
}

func mixedNode(seed *uint64, m api.Image, at, n int) api.Node {
	ahead := func() int { return min(n, at+1+below(seed, 4)) }
	switch below(seed, 5) {
	case 0, 1:
		return apply(below(seed, len(m.Tables)), ahead(), ahead())
	case 2:
		return when(mixedCode(seed, m, below(seed, 6)), ahead(), ahead())
	case 3:
		return do(below(seed, len(m.Actions)), ahead())
	}
	return valid(below(seed, slots(m)), ahead(), ahead())
}

// ask has keys and code ask for fields that are there by the model (the first instruction has all that its node has), and in one image of some for one as it comes.
func ask(seed *uint64, m *api.Image, in flow.Set) {
	f := modelOf(*m, false).control(in).f
	tables, actions := lists(len(m.Tables)), lists(len(m.Actions))
	for i, n := range m.Ingress {
		if !f.Seen[i] {
			continue
		}
		switch n.Kind {
		case api.NodeApply:
			tables[n.A] &= f.Sets[i]
			for _, action := range m.Tables[n.A].Actions {
				actions[action] &= f.Sets[i]
			}
		case api.NodeDo:
			actions[n.A] &= f.Sets[i]
		case api.NodeIf:
			askCode(seed, *m, m.Ingress[i].Code, f.Sets[i])
		}
	}
	for i, s := range actions {
		askCode(seed, *m, m.Actions[i].Code, s)
	}
	for i, s := range tables {
		if slot, ok := some(seed, *m, s); ok {
			m.Tables[i].Keys = append(m.Tables[i].Keys, field(slot, 1))
		}
	}
}

func lists(n int) []flow.Set {
	l := make([]flow.Set, n)
	for i := range l {
		l[i] = full
	}
	return l
}

func askCode(seed *uint64, m api.Image, l []api.Ins, s flow.Set) {
	for at, x := range l {
		if x.Op != api.OpPush {
			continue
		}
		if slot, ok := some(seed, m, s); ok && (at == 0 || below(seed, 10) == 0) {
			l[at] = []api.Ins{get(slot), put(slot)}[below(seed, 2)]
		}
	}
}

// some is a slot of a set, and at times any one.
func some(seed *uint64, m api.Image, s flow.Set) (int, bool) {
	slot := below(seed, slots(m))
	return slot, s>>slot&1 == 1 || below(seed, 5) == 0
}

// Promises 17.1 to 17.3: controls are held against the model, and gone through on a packet's headers.
func TestMixedControls(t *testing.T) {
	rights, changed, unseen, asked, most := 0, 0, 0, 0, 0
	parts := map[int]int{}
	for i := range 1200 {
		seed := uint64(i)
		in := flow.Set(ground.Number(&seed) | ground.Number(&seed))
		m := mixed(&seed, in)
		if err := image.Check(m); err != nil {
			t.Fatal(i, err)
		}
		got := tell(paths.Control(m, false, in))
		is(t, got, modelOf(m, false).control(in), i, m.Ingress)
		parts[got.w.Part]++
		if got.w != (typing.Wrong{}) {
			is(t, tell(paths.Control(turned(m), true, in)), asEgress(got), "the egress:", i)
			continue
		}
		rights++
		if got.f.Out != in && got.f.Out&flow.All(m) != 0 {
			changed++
		}
		for j, seen := range got.f.Seen {
			is(t, paths.Cost(m, m.Ingress[j]), modelOf(m, false).cost(m.Ingress[j]), "Cost", i, j)
			if !seen {
				unseen++
			}
		}
		none, full := phv.New(m), false
		for range 5 {
			w := way{m: m, f: got.f, p: none.Copy()}
			w.goThrough(t, &seed, in)
			asked += w.asked
			full = full || w.steps == got.f.Steps && len(m.Ingress) > 1
		}
		if full {
			most++
		}
	}
	if rights < 800 || changed < 500 || unseen < 1000 || asked < 3000 || most < 150 || parts[5] < 60 || parts[7] < 100 {
		t.Error("too few of a kind:", rights, changed, unseen, asked, most, parts)
	}
}

// way is a packet that goes through the ingress on one way.
type way struct {
	m            api.Image
	f            paths.Facts
	p            *phv.Phv
	steps, asked int
}

// goThrough begins with the slots of a set, and others as they come; entries are any, and so are values.
func (w *way) goThrough(t *testing.T, seed *uint64, in flow.Set) {
	t.Helper()
	for slot := range slots(w.m) {
		if in>>slot&1 == 1 || below(seed, 2) == 0 {
			w.p.Show(slot)
		}
	}
	at := 0
	for at < len(w.m.Ingress) {
		is(t, w.f.Seen[at], true, "the node", at)
		w.there(t, w.f.Sets[at])
		at = w.node(t, seed, w.m.Ingress[at])
	}
	w.there(t, w.f.Out)
	if w.steps > w.f.Steps {
		t.Fatal(w.steps, "taken; at most", w.f.Steps)
	}
}

// node does a node, and tells where it leads on this way.
func (w *way) node(t *testing.T, seed *uint64, n api.Node) int {
	t.Helper()
	w.steps++
	yes := below(seed, 2) == 0
	switch n.Kind {
	case api.NodeApply:
		w.steps++
		x := w.m.Tables[n.A]
		for _, k := range x.Keys {
			if k.Kind == api.KeyField {
				w.field(t, k.A)
			}
		}
		action := x.Default.Action
		if yes {
			action = x.Actions[below(seed, len(x.Actions))]
		}
		w.do(t, seed, w.m.Actions[action].Code)
	case api.NodeIf:
		w.do(t, seed, n.Code)
	case api.NodeDo:
		w.do(t, seed, w.m.Actions[n.A].Code)
		return n.Yes
	case api.NodeValid:
		yes = w.p.Has(n.A)
	}
	if yes {
		return n.Yes
	}
	return n.No
}

// do does code, as far as slots go.
func (w *way) do(t *testing.T, seed *uint64, l []api.Ins) {
	t.Helper()
	for at := 0; at < len(l); {
		w.steps++
		x := l[at]
		at++
		switch x.Op {
		case api.OpStop:
			return
		case api.OpField, api.OpPutField:
			w.field(t, x.A)
		case api.OpShow:
			w.p.Show(x.A)
		case api.OpHide:
			w.p.Hide(x.A)
		case api.OpPushHead:
			w.p.Push(x.A, x.B)
		case api.OpPopHead:
			w.p.Pop(x.A, x.B)
		case api.OpJump:
			at = x.A
		case api.OpJumpZero:
			if below(seed, 2) == 0 {
				at = x.A
			}
		case api.OpJumpGone:
			if !w.p.Has(x.A) {
				at = x.B
			}
		}
	}
}

// field asks for a field, which has to be there.
func (w *way) field(t *testing.T, slot int) {
	t.Helper()
	_, e := w.p.Get(slot, 0)
	is(t, e, api.OK, "a field of the slot", slot)
	w.asked++
}

// there asks a packet's headers for the slots of a set.
func (w *way) there(t *testing.T, s flow.Set) {
	t.Helper()
	for slot := range slots(w.m) {
		if s>>slot&1 == 1 && !w.p.Has(slot) {
			t.Fatalf("the slot %d isn't there", slot)
		}
	}
}

// All controls of up to three nodes of a few that show a slot, hide it or ask for it.
func TestFewNodes(t *testing.T) {
	acts := [][]api.Ins{nil, of(show(0)), of(hide(0)), of(get(0))}
	tabs := []api.Table{table(keys(byMeta), 1, 1, 2), table(keys(byMeta), 2, 3, 2), table(keys(field(0, 1)), 0, 1, 0)}
	var over func(l []api.Node, n int)
	over = func(l []api.Node, n int) {
		if len(l) == n {
			m := with(acts, tabs, l)
			for in := range flow.Set(2) {
				is(t, tell(paths.Control(m, false, in)), modelOf(m, false).control(in), l, in)
			}
			return
		}
		for yes := len(l) + 1; yes <= n; yes++ {
			for action := range acts {
				over(append(l, do(action, yes)), n)
			}
			for no := len(l) + 1; no <= n; no++ {
				over(append(l, valid(0, yes, no)), n)
				over(append(l, when(of(get(0)), yes, no)), n)
				for i := range tabs {
					over(append(l, apply(i, yes, no)), n)
				}
			}
		}
	}
	for n := range 4 {
		over(nil, n)
	}
}
