package paths_test

import (
	"cmp"
	"reflect"
	"slices"
	"testing"

	"shunter/api"
	"shunter/flow"
	"shunter/ground"
	"shunter/paths"
	"shunter/typing"
)

// The model goes each way there is, node by node and instruction by instruction, with a set of that way's own, and lays together what it met.

// model asks no other layer.
type model struct {
	m      api.Image
	part   int
	nodes  []api.Node
	facts  paths.Facts // of the end a set too, till it is told
	been   map[stand]bool
	faults []fault
}

// stand is where a way has come to, and what is there by it.
type stand struct {
	at int
	s  flow.Set
}

// fault is a field that isn't there by some way: of which node, of its key (0) or which of its codes (from 1 on), and what is told of it.
type fault struct {
	node, of int
	w        typing.Wrong
}

func modelOf(m api.Image, egress bool) *model {
	x := &model{m: m, part: 7, nodes: m.Ingress, been: map[stand]bool{}}
	if egress {
		x.part, x.nodes = 8, m.Egress
	}
	for range len(x.nodes) + 1 {
		x.facts.Seen, x.facts.Sets = append(x.facts.Seen, false), append(x.facts.Sets, full)
	}
	return x
}

// full has all slots that a set may have.
const full = ^flow.Set(0)

// control is what Control tells of an image that layer 10 lets be.
func (x *model) control(in flow.Set) told {
	x.come(0, in)
	if len(x.faults) > 0 {
		return told{w: slices.MinFunc(x.faults, earlier).w}
	}
	f, end := x.facts, len(x.nodes)
	f.Out = f.Sets[end]
	f.Seen, f.Sets = append([]bool(nil), f.Seen[:end]...), append([]flow.Set(nil), f.Sets[:end]...)
	for i, seen := range f.Seen {
		if !seen {
			f.Sets[i] = 0
		}
	}
	f.Steps = x.from(0, map[int]int{})
	return told{f: f}
}

func earlier(a, b fault) int {
	return cmp.Or(a.node-b.node, a.of-b.of, a.w.At-b.w.At)
}

// come goes on from a node, and so each way from there.
func (x *model) come(at int, s flow.Set) {
	if x.been[stand{at, s}] {
		return
	}
	x.been[stand{at, s}] = true
	x.facts.Seen[at] = true
	x.facts.Sets[at] &= s
	if at == len(x.nodes) {
		return
	}
	n := x.nodes[at]
	switch n.Kind {
	case api.NodeApply:
		x.apply(at, s)
	case api.NodeIf:
		for _, behind := range x.code(fault{at, 1, typing.Wrong{Part: x.part, N: at}}, n.Code, s) {
			x.come(n.Yes, behind)
			x.come(n.No, behind)
		}
	case api.NodeDo:
		for _, behind := range x.action(at, 1, n.A, s) {
			x.come(n.Yes, behind)
		}
	case api.NodeValid:
		x.come(n.Yes, s|1<<n.A)
		x.come(n.No, s&^(1<<n.A))
	}
}

func (x *model) apply(at int, s flow.Set) {
	n := x.nodes[at]
	table := x.m.Tables[n.A]
	for i, k := range table.Keys {
		if k.Kind == api.KeyField && s>>k.A&1 == 0 {
			x.faults = append(x.faults, fault{at, 0, typing.Wrong{Part: x.part, N: at, At: i, E: api.ErrValid}})
		}
	}
	for i, action := range table.Actions {
		for _, behind := range x.action(at, i+1, action, s) {
			x.come(n.Yes, behind)
			if action == table.Default.Action {
				x.come(n.No, behind)
			}
		}
	}
}

func (x *model) action(at, of, action int, s flow.Set) []flow.Set {
	return x.code(fault{at, of, typing.Wrong{Part: 5, N: action}}, x.m.Actions[action].Code, s)
}

// code is the sets with which code ends, and puts down its faults.
func (x *model) code(f fault, l []api.Ins, s flow.Set) []flow.Set {
	ends, wrongs := ways(x.m, l, s)
	for _, at := range wrongs {
		f.w.At, f.w.E = at, api.ErrValid
		x.faults = append(x.faults, f)
	}
	return ends
}

// ways goes each way through code: the sets that ways end with, and the places at which a field isn't there by one.
func ways(m api.Image, l []api.Ins, s flow.Set) (ends []flow.Set, wrongs []int) {
	been := map[stand]bool{}
	var go1 func(at int, s flow.Set)
	go1 = func(at int, s flow.Set) {
		if been[stand{at, s}] {
			return
		}
		been[stand{at, s}] = true
		if at == len(l) || l[at].Op == api.OpStop {
			ends = append(ends, s)
			return
		}
		x := l[at]
		switch x.Op {
		case api.OpField, api.OpPutField:
			if s>>x.A&1 == 0 {
				wrongs = append(wrongs, at)
				return
			}
		case api.OpShow:
			s |= 1 << x.A
		case api.OpHide:
			s &^= 1 << x.A
		case api.OpPushHead:
			s = moved(m, x.A, x.B, s)
		case api.OpPopHead:
			s = moved(m, x.A, -x.B, s)
		case api.OpJump:
			go1(x.A, s)
			return
		case api.OpJumpZero:
			go1(x.A, s)
		case api.OpJumpGone:
			go1(x.B, s&^(1<<x.A))
			s |= 1 << x.A
		}
		go1(at+1, s)
	}
	go1(0, s)
	return ends, wrongs
}

func moved(m api.Image, inst, by int, s flow.Set) flow.Set {
	l := stack(m, inst)
	out := s
	for i, slot := range l {
		out &^= 1 << slot
		if from := i - by; 0 <= from && from < len(l) && s>>l[from]&1 == 1 {
			out |= 1 << slot
		}
	}
	return out
}

// stack is the slots of an instance that is a stack.
func stack(m api.Image, inst int) []int {
	first := 0
	for _, in := range m.Insts[:inst] {
		first += max(1, in.Depth)
	}
	var l []int
	for i := range m.Insts[inst].Depth {
		l = append(l, first+i)
	}
	return l
}

// from is the most steps from a node on.
func (x *model) from(at int, most map[int]int) int {
	if at == len(x.nodes) {
		return 0
	}
	if _, ok := most[at]; !ok {
		n := x.nodes[at]
		most[at] = x.from(n.Yes, most)
		if n.Kind != api.NodeDo {
			most[at] = max(most[at], x.from(n.No, most))
		}
		most[at] += x.cost(n)
	}
	return most[at]
}

// cost is the steps of a node of the image.
func (x *model) cost(n api.Node) int {
	var l []int
	extra := 1
	switch n.Kind {
	case api.NodeApply:
		l, extra = x.m.Tables[n.A].Actions, 2
	case api.NodeDo:
		l = []int{n.A}
	}
	most := len(n.Code)
	for _, action := range l {
		most = max(most, len(x.m.Actions[action].Code))
	}
	return most + extra
}

// told is what Control tells.
type told struct {
	f paths.Facts
	w typing.Wrong
}

func tell(f paths.Facts, err error) told {
	w, ok := typing.Why(err)
	if ok != (err != nil) {
		panic("another error")
	}
	return told{f, w}
}

// behind is what After tells.
type behind struct {
	s  flow.Set
	at int
	e  api.Errno
}

func tellAfter(s flow.Set, at int, e api.Errno) behind { return behind{s, at, e} }

// after is what After tells of an action there is.
func after(m api.Image, action int, s flow.Set) behind {
	ends, wrongs := ways(m, m.Actions[action].Code, s)
	if len(wrongs) > 0 {
		return behind{at: slices.Min(wrongs), e: api.ErrValid}
	}
	b := behind{s: full}
	for _, end := range ends {
		b.s &= end
	}
	return b
}

// Short words for code, tables and nodes.

func op(o api.Op, n ...int) api.Ins {
	n = append(n, 0, 0)
	return api.Ins{Op: o, A: n[0], B: n[1]}
}

func push() api.Ins { return api.Ins{V: api.Vec{W: 8, Lo: 1}} }

func of(l ...api.Ins) []api.Ins { return l }

func get(slot int) api.Ins { return op(api.OpField, slot) }

func put(slot int) api.Ins { return op(api.OpPutField, slot) }

func show(slot int) api.Ins { return op(api.OpShow, slot) }

func hide(slot int) api.Ins { return op(api.OpHide, slot) }

func gone(slot, to int) api.Ins { return op(api.OpJumpGone, slot, to) }

func zero(to int) api.Ins { return op(api.OpJumpZero, to) }

func stop() api.Ins { return op(api.OpStop) }

func field(slot, f int) api.Key { return api.Key{A: slot, B: f} }

func meta(i int) api.Key { return api.Key{Kind: api.KeyMeta, A: i} }

func keys(l ...api.Key) []api.Key { return l }

// table has its default call beside its actions.
func table(keys []api.Key, byDefault int, actions ...int) api.Table {
	return api.Table{Keys: keys, Actions: actions, Default: api.Call{Action: byDefault}, Size: 1}
}

func apply(table, yes, no int) api.Node {
	return api.Node{Kind: api.NodeApply, A: table, Yes: yes, No: no}
}

func when(l []api.Ins, yes, no int) api.Node {
	return api.Node{Kind: api.NodeIf, Code: l, Yes: yes, No: no}
}

func do(action, yes int) api.Node { return api.Node{Kind: api.NodeDo, A: action, Yes: yes} }

func valid(slot, yes, no int) api.Node {
	return api.Node{Kind: api.NodeValid, A: slot, Yes: yes, No: no}
}

func nodes(l ...api.Node) []api.Node { return l }

// with is the image of package ground with other actions, tables and ingress, and an egress that asks for what isn't there with any set; what the parser finds is no matter of this layer. Slots: eth 0, tags (the instance 1) 1 to 3, ip 4, odd (the instance 3, a stack of one) 5, in 6.
func with(actions [][]api.Ins, tables []api.Table, ingress []api.Node) api.Image {
	return ground.Changed(func(m *api.Image) {
		m.Actions = ground.Several(api.Action{}, len(actions), func(x *api.Action, s string) { x.Name = s })
		for i, l := range actions {
			m.Actions[i].Code = l
		}
		named := ground.Several(api.Table{}, len(tables), func(x *api.Table, s string) { x.Name = s })
		for i := range tables {
			tables[i].Name = named[i].Name
		}
		m.Tables, m.Ingress, m.Egress = tables, ingress, nodes(when(of(hide(6), get(6)), 1, 1))
	})
}

// turned has the ingress' nodes in the egress, and the other way round.
func turned(m api.Image) api.Image {
	m.Ingress, m.Egress = m.Egress, m.Ingress
	return m
}

func set(l ...int) flow.Set {
	var s flow.Set
	for _, slot := range l {
		s |= 1 << slot
	}
	return s
}

func sets(l ...flow.Set) []flow.Set { return l }

func is(t *testing.T, got, want any, what ...any) {
	t.Helper()
	if !reflect.DeepEqual(got, want) {
		t.Fatalf("%v = %v; want %v", what, got, want)
	}
}
