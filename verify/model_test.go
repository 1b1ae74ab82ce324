package verify_test

import (
	"errors"
	"reflect"
	"testing"

	"shunter/api"
	"shunter/flow"
	"shunter/graph"
	"shunter/ground"
	"shunter/image"
	"shunter/paths"
	"shunter/shape"
	"shunter/typing"
	"shunter/verify"
)

// The model asks the layers below one after the other, and counts a packet's steps, and its bytes, pass by pass and copy by copy.

// known is what a proof tells.
type known struct {
	m               api.Image
	parser          graph.Facts
	ingress, egress paths.Facts
	bound, growth   int
}

// told is what Why tells.
type told struct {
	e           api.Errno
	part, n, at int
}

// ask is what Verify tells. With an error there is no proof, and the error is of a type of its own.
func ask(t *testing.T, m api.Image) (known, told) {
	t.Helper()
	p, err := verify.Verify(m)
	if err == nil {
		if p == nil {
			t.Fatal("neither a proof nor an error")
		}
		return all(p), told{}
	}
	var f *image.Flaw
	var w *typing.Wrong
	if p != nil || !errors.As(err, &f) && !errors.As(err, &w) || f == nil && w == nil {
		t.Fatalf("%v and %#v", p, err)
	}
	return known{}, tell(verify.Why(err))
}

func all(p *verify.Proof) known {
	return known{p.Image(), p.Parser(), p.Ingress(), p.Egress(), p.Bound(), p.Growth()}
}

func tell(e api.Errno, part, n, at int) told { return told{e, part, n, at} }

// model is what Verify is to tell.
func model(m api.Image) (known, told) {
	x := known{m: image.Copy(m)}
	for _, layer := range []func() error{
		func() error { return image.Check(m) },
		func() error { return typing.Check(m) },
		func() (err error) { x.parser, err = graph.Check(m); return err },
		func() (err error) { x.ingress, err = paths.Control(m, false, x.parser.Accept); return err },
		func() (err error) { x.egress, err = paths.Control(m, true, x.ingress.Out); return err },
	} {
		err := layer()
		if f, ok := err.(*image.Flaw); ok {
			return known{}, told{f.E, f.Part, f.N, -1}
		}
		if w, ok := typing.Why(err); ok {
			return known{}, told{w.E, w.Part, w.N, w.At}
		}
	}
	x.count()
	return x, told{}
}

func (x *known) count() {
	for round := 0; round <= x.m.Rounds; round++ {
		x.bound += x.parser.Steps + x.ingress.Steps
		for range x.m.Checks {
			x.bound++
		}
		x.together()
		for range 65 {
			x.bound += x.egress.Steps
			x.together()
		}
		for _, slot := range x.m.Deparse {
			h, _ := shape.Header(x.m.Headers, x.m.Insts, slot)
			x.growth += shape.Most(h)
		}
	}
}

func (x *known) together() {
	for range x.m.Updates {
		x.bound++
	}
	for range x.m.Deparse {
		x.bound++
	}
}

// holds asks the model and the verifier for an image.
func holds(t *testing.T, m api.Image, what ...any) (known, told) {
	t.Helper()
	got, e := ask(t, m)
	want, wrong := model(m)
	is(t, e, wrong, append(what, "Why")...)
	is(t, got, want, append(what, "the proof")...)
	return got, e
}

// greatest takes as many steps, and grows as much, as there may be.
func greatest() api.Image {
	return ground.Changed(func(m *api.Image) {
		fields := ground.Several(api.Field{W: 128}, 16, func(x *api.Field, s string) { x.Name = s })
		fields[0].W = 16
		m.Headers = []api.Header{{Name: "h", Fields: fields, Var: 64, Mul: 1}}
		m.Insts = ground.Several(api.Inst{Depth: 4}, 8, func(x *api.Inst, s string) { x.Name = s })
		m.States = []api.State{{Name: "s", Exts: []api.Ext{next(0), next(1), next(2), next(3)}}}
		m.Actions = []api.Action{{Name: "a", Code: m.Actions[3].Code}}
		m.Tables = []api.Table{{Name: "t", Keys: []api.Key{meta(0)}, Actions: []int{0}, Size: 1}}
		m.Ingress = nil
		for i := range 32 {
			m.Ingress = append(m.Ingress, apply(0, i+1, i+1))
		}
		m.Egress, m.Deparse = m.Ingress, nil
		for slot := range 32 {
			m.Deparse = append(m.Deparse, slot)
		}
		m.Checks = []api.Sum{{}, {Slot: 1}, {Slot: 1}, {Slot: 31}}
		m.Updates = m.Checks
	})
}

// least is the least image, with a header of two bytes, and a change.
func least(in func(m *api.Image)) api.Image {
	m := ground.LeastImage()
	m.Headers = []api.Header{{Name: "h", Fields: []api.Field{{Name: "a", W: 16}}}}
	m.Insts = []api.Inst{{Name: "h"}, {Name: "l", Depth: 4}}
	m.Actions = []api.Action{{Name: "nothing"}, {Name: "get", Code: of(get(0), put(0))}, {Name: "show", Code: of(show(0))}, {Name: "hide", Code: of(hide(0))}}
	in(&m)
	return m
}

// right is package ground's Right with a change.
func right(in func(m *api.Image)) api.Image {
	m := ground.Right()
	in(&m)
	return m
}

// Short words for what an image is made of.

func op(o api.Op, n ...int) api.Ins {
	n = append(n, 0, 0)
	return api.Ins{Op: o, A: n[0], B: n[1]}
}

func push(w int) api.Ins { return api.Ins{V: api.Vec{W: w, Lo: 1}} }

func of(l ...api.Ins) []api.Ins { return l }

func get(slot int) api.Ins { return op(api.OpField, slot) }

func put(slot int) api.Ins { return op(api.OpPutField, slot) }

func show(slot int) api.Ins { return op(api.OpShow, slot) }

func hide(slot int) api.Ins { return op(api.OpHide, slot) }

func one(slot int) api.Ext { return api.Ext{Kind: api.ExtOne, N: slot} }

func next(inst int) api.Ext { return api.Ext{Kind: api.ExtNext, N: inst} }

func exts(l ...api.Ext) []api.Ext { return l }

func field(slot, f int) api.Key { return api.Key{A: slot, B: f} }

func meta(i int) api.Key { return api.Key{Kind: api.KeyMeta, A: i} }

func keys(l ...api.Key) []api.Key { return l }

func apply(table, yes, no int) api.Node {
	return api.Node{Kind: api.NodeApply, A: table, Yes: yes, No: no}
}

func when(l []api.Ins, yes, no int) api.Node {
	return api.Node{Kind: api.NodeIf, Code: l, Yes: yes, No: no}
}

func do(action, yes int) api.Node { return api.Node{Kind: api.NodeDo, A: action, Yes: yes} }

func valid(slot, yes, no int) api.Node {
	return api.Node{Kind: api.NodeValid, A: slot, Yes: yes, No: no}
}

func nodes(l ...api.Node) []api.Node { return l }

func set(l ...int) flow.Set {
	var s flow.Set
	for _, slot := range l {
		s |= 1 << slot
	}
	return s
}

func sets(l ...flow.Set) []flow.Set { return l }

func yes(n int) []bool {
	l := make([]bool, n)
	for i := range l {
		l[i] = true
	}
	return l
}

func is(t *testing.T, got, want any, what ...any) {
	t.Helper()
	if !reflect.DeepEqual(got, want) {
		t.Fatalf("%v = %v; want %v", what, got, want)
	}
}
