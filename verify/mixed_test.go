package verify_test

import (
	"reflect"
	"slices"
	"testing"

	"shunter/api"
	"shunter/ground"
	"shunter/image"
	"shunter/phv"
	"shunter/verify"
)

func below(seed *uint64, n int) int { return int(ground.Number(seed) % uint64(n)) }

// numbers are all that an image has, but rows' own ones.
func numbers(v reflect.Value) []reflect.Value {
	var l []reflect.Value
	switch v.Kind() {
	case reflect.Struct:
		for i := range v.NumField() {
			l = append(l, numbers(v.Field(i))...)
		}
	case reflect.Slice:
		for i := range v.Len() {
			l = append(l, numbers(v.Index(i))...)
		}
	case reflect.Int:
		l = append(l, v)
	}
	return l
}

// mixed is an image that is right but for some numbers, each of which is another one near it, or one of the least. Few have a flaw.
func mixed(seed *uint64) api.Image {
	m := []func() api.Image{ground.Right, ground.Right, many}[below(seed, 3)]()
	var parts [][]reflect.Value
	for _, part := range []any{&m, &m.States, &m.Ingress, &m.Egress, &m.Tables} {
		parts = append(parts, numbers(reflect.ValueOf(part).Elem()))
	}
	for range 1 + below(seed, 12) {
		l := parts[below(seed, len(parts))]
		v := l[below(seed, len(l))]
		was := v.Int()
		v.SetInt([]int64{was + 1, was - 1, int64(below(seed, 7))}[below(seed, 3)])
		if image.Check(m) != nil && below(seed, 50) > 0 {
			v.SetInt(was)
		}
	}
	return m
}

// many has stacks, what a parser takes of them, and controls in which much hangs on the way.
func many() api.Image {
	return right(func(m *api.Image) {
		m.Rounds, m.Depth, m.Actions = 2, 5, m.Actions[:1]
		for _, l := range [][]api.Ins{of(show(0)), of(show(4)), of(hide(4)), of(show(6), get(0), op(api.OpPutMeta, 9)), of(op(api.OpPushHead, 1, 1), show(1)), of(op(api.OpJumpGone, 4, 3), op(api.OpField, 4, 2), op(api.OpPutMeta, 1))} {
			m.Actions = append(m.Actions, api.Action{Name: "more", Code: l})
		}
		names := ground.Several(api.Action{}, len(m.Actions), func(x *api.Action, s string) { x.Name = s })
		for i := range m.Actions {
			m.Actions[i].Name = names[i].Name
		}
		m.Actions[4].Code = of(show(6), op(api.OpField, 0, 2), op(api.OpPutField, 0, 2))
		table := func(name string, l []int, keys ...api.Key) api.Table {
			return api.Table{Name: name, Keys: keys, Actions: l, Default: api.Call{Action: l[0]}, Size: 2}
		}
		m.Tables = []api.Table{table("a", []int{1, 2}, field(0, 0)), table("b", []int{4, 6, 0}, meta(1), field(0, 1)), table("c", []int{3, 5}, field(4, 2))}
		m.Ingress = nodes(valid(4, 2, 1), do(2, 2), apply(2, 3, 4), apply(0, 4, 5), apply(1, 6, 6), do(5, 6), valid(1, 7, 8), when(of(op(api.OpField, 1, 1)), 8, 8))
		m.Egress = nodes(do(1, 1), apply(1, 2, 3), when(of(op(api.OpField, 0, 2), push(16), op(api.OpLess)), 4, 3), do(6, 4))
		m.Deparse, m.Checks, m.Updates = []int{0, 1, 4}, m.Checks[:1], m.Updates[:1]
	})
}

// Promises 18.1 to 18.3: images are held against the model, and packets go through those that are right.
func TestMixedImages(t *testing.T) {
	kinds := map[string]int{}
	asked, far := 0, 0
	for i := range 1500 {
		seed := uint64(i)
		m := mixed(&seed)
		got, e := holds(t, m, i)
		kinds[kind(e)]++
		if e != (told{}) {
			continue
		}
		is(t, got.bound <= 1<<32, true, "the bound", i)
		none := phv.New(m)
		for range 3 {
			x := trip{t: t, m: m, known: got, seed: &seed, none: none}
			x.goRound()
			asked += x.asked
			if x.steps*2 > got.bound {
				far++
			}
		}
	}
	for s, least := range map[string]int{"right": 500, "flaw": 70, "code": 180, "parser": 8, "control": 180} {
		if kinds[s] < least {
			t.Error("too few of a kind:", s, kinds)
		}
	}
	if asked < 8000 || far < 80 {
		t.Error("too few of a kind:", asked, far)
	}
}

func kind(e told) string {
	switch {
	case e == (told{}):
		return "right"
	case e.at < 0:
		return "flaw"
	case e.part == 4:
		return "parser"
	case e.e == api.ErrValid:
		return "control"
	}
	return "code"
}

// trip is a packet on its way through a whole image, by states, entries and values as they come.
type trip struct {
	t            *testing.T
	m            api.Image
	known        known
	seed         *uint64
	none, p      *phv.Phv
	steps, asked int
	bytes        int // of the headers that one put together has more than a rest, at most
}

// goRound goes round as often as may be, and has as many copies go out as may be.
func (x *trip) goRound() {
	x.t.Helper()
	for range x.m.Rounds + 1 {
		x.p = x.none.Copy()
		if !x.parse() {
			break
		}
		x.steps += len(x.m.Checks)
		x.control(x.m.Ingress)
		x.together()
		ahead := x.steps
		x.control(x.m.Egress)
		x.together()
		x.steps += 64 * (x.steps - ahead) // the other copies go the same way
	}
	if x.steps > x.known.bound || x.bytes > x.known.growth {
		x.t.Fatal(x.steps, x.bytes, "taken; at most", x.known.bound, x.known.growth)
	}
}

// parse tells whether a packet is Accepted.
func (x *trip) parse() bool {
	x.t.Helper()
	state := 0
	for range x.m.Depth {
		s := x.m.States[state]
		x.steps++
		for _, ext := range s.Exts {
			if !x.take(ext) {
				return false
			}
		}
		x.keys(s.Keys)
		l := []int{s.Next}
		for _, c := range s.Cases {
			l = append(l, c.Next)
		}
		state = l[below(x.seed, len(l))]
		if state < 0 {
			break
		}
	}
	return state == api.Accept
}

func (x *trip) take(ext api.Ext) bool {
	x.steps++
	slot, e := ext.N, api.OK
	switch ext.Kind {
	case api.ExtSkip:
		return true
	case api.ExtNext:
		slot, e = x.p.Another(ext.N)
	}
	if e == api.OK {
		_, e = x.p.Take(slot, slices.Repeat([]byte{byte(0x40 + below(x.seed, 16))}, 400))
	}
	return e == api.OK
}

func (x *trip) keys(l []api.Key) {
	x.t.Helper()
	for _, k := range l {
		if k.Kind == api.KeyField {
			x.field(k.A)
		}
	}
}

// field asks for a field, which has to be there.
func (x *trip) field(slot int) {
	x.t.Helper()
	_, e := x.p.Get(slot, 0)
	is(x.t, e, api.OK, "a field of the slot", slot)
	x.asked++
}

func (x *trip) control(l []api.Node) {
	x.t.Helper()
	for at := 0; at < len(l); {
		at = x.node(l[at])
	}
}

// node does a node, and tells where it leads.
func (x *trip) node(n api.Node) int {
	x.t.Helper()
	x.steps++
	yes := below(x.seed, 2) == 0
	switch n.Kind {
	case api.NodeApply:
		x.steps++
		table := x.m.Tables[n.A]
		x.keys(table.Keys)
		action := table.Default.Action
		if yes {
			action = table.Actions[below(x.seed, len(table.Actions))]
		}
		x.do(x.m.Actions[action].Code)
	case api.NodeIf:
		x.do(n.Code)
	case api.NodeDo:
		x.do(x.m.Actions[n.A].Code)
		return n.Yes
	case api.NodeValid:
		yes = x.p.Has(n.A)
	}
	if yes {
		return n.Yes
	}
	return n.No
}

// do does code, as far as slots go.
func (x *trip) do(l []api.Ins) {
	x.t.Helper()
	for at := 0; at < len(l); {
		x.steps++
		in := l[at]
		at++
		switch in.Op {
		case api.OpStop:
			return
		case api.OpField, api.OpPutField:
			x.field(in.A)
		case api.OpShow:
			x.p.Show(in.A)
		case api.OpHide:
			x.p.Hide(in.A)
		case api.OpPushHead:
			x.p.Push(in.A, in.B)
		case api.OpPopHead:
			x.p.Pop(in.A, in.B)
		case api.OpJump:
			at = in.A
		case api.OpJumpZero:
			if below(x.seed, 2) == 0 {
				at = in.A
			}
		case api.OpJumpGone:
			if !x.p.Has(in.A) {
				at = in.B
			}
		}
	}
}

// together puts the headers together that go out.
func (x *trip) together() {
	x.t.Helper()
	x.steps += len(x.m.Updates) + len(x.m.Deparse)
	n := 0
	for _, slot := range x.m.Deparse {
		if x.p.Has(slot) {
			raw, e := x.p.Bytes(slot)
			is(x.t, e, api.OK, "the bytes of the slot", slot)
			n += len(raw)
		}
	}
	x.bytes = max(x.bytes, n*(x.m.Rounds+1))
}

// What is changed is right as it is.
func TestManyIsRight(t *testing.T) {
	for _, m := range []api.Image{many(), ground.Right()} {
		is(t, image.Check(m), nil)
		_, err := verify.Verify(m)
		is(t, err, nil)
	}
}
