package paths

import (
	"shunter/api"
	"shunter/flow"
	"shunter/typing"
)

// The parts of an image in which a field may be asked for, as layer 10 numbers them.
const (
	actionPart  = 5
	ingressPart = 7
	egressPart  = 8
)

// place is whether any way so far leads to a node, or to the end; what is surely there by all that do; and the steps of the one that takes the most.
type place struct {
	reached bool
	set     flow.Set
	steps   int
}

// met is the place with one more way that comes to it.
func (p place) met(s flow.Set, steps int) place {
	if p.reached {
		s = s.Both(p.set)
	}
	return place{true, s, max(steps, p.steps)}
}

// walker goes over a control, a part of an image; it has what all ways so far come to each node, and to the end, with.
type walker struct {
	m       api.Image
	forCode api.Image
	part    int
	nodes   []api.Node
	places  []place
}

func begin(m api.Image, egress bool, in flow.Set) walker {
	w := walker{m: m, forCode: forCode(m), part: ingressPart, nodes: m.Ingress}
	if egress {
		w.part, w.nodes = egressPart, m.Egress
	}
	w.places = make([]place, len(w.nodes)+1)
	w.places[0] = place{reached: true, set: in}
	return w
}

// forCode is an image with all that code may name, and else with as little as there must be: layer 15 goes over the whole of it for each code.
func forCode(m api.Image) api.Image {
	return api.Image{
		Name: m.Name, Headers: m.Headers, Insts: m.Insts, Metas: m.Metas, Regs: m.Regs, Counters: m.Counters, Meters: m.Meters,
		States: []api.State{{Name: "s", Next: api.Accept}}, Ports: 1, Depth: 1,
	}
}

// pass asks a node, if it is reached, and comes to the places where it leads.
func (w walker) pass(at int) error {
	here, x := w.places[at], w.nodes[at]
	if !here.reached {
		return nil
	}
	yes, no, err := w.behind(at, here.set)
	if err != nil {
		return err
	}
	steps := here.steps + cost(w.m, x)
	w.places[x.Yes] = w.places[x.Yes].met(yes, steps)
	if x.Kind != api.NodeDo {
		w.places[x.No] = w.places[x.No].met(no, steps)
	}
	return nil
}

// behind is what a node brings to Yes, and what it brings to No.
func (w walker) behind(at int, s flow.Set) (yes, no flow.Set, err error) {
	x := w.nodes[at]
	switch x.Kind {
	case api.NodeApply:
		return w.applied(at, w.m.Tables[x.A], s)
	case api.NodeIf:
		s, err = w.done(w.part, at, x.Code, s)
		return s, s, err
	case api.NodeDo:
		s, err = w.acted(x.A, s)
		return s, s, err
	}
	return s.With(x.A), s.Without(x.A), nil
}

// applied is what is surely there behind any of a table's actions, and what is behind its default one, which is one of them.
func (w walker) applied(at int, x api.Table, s flow.Set) (yes, no flow.Set, err error) {
	for i, k := range x.Keys {
		if k.Kind == api.KeyField && !s.Has(k.A) {
			return 0, 0, wrong(w.part, at, i)
		}
	}
	yes = ^flow.Set(0)
	for _, action := range x.Actions {
		behind, err := w.acted(action, s)
		if err != nil {
			return 0, 0, err
		}
		yes = yes.Both(behind)
		if action == x.Default.Action {
			no = behind
		}
	}
	return yes, no, nil
}

func (w walker) acted(action int, s flow.Set) (flow.Set, error) {
	return w.done(actionPart, action, w.m.Actions[action].Code, s)
}

// done is what is surely there behind the code of a thing of a part.
func (w walker) done(part, n int, l []api.Ins, s flow.Set) (flow.Set, error) {
	s, at, e := flow.Code(w.forCode, l, s)
	if e != api.OK {
		return 0, wrong(part, n, at)
	}
	return s, nil
}

func wrong(part, n, at int) error {
	return &typing.Wrong{Part: part, N: n, At: at, E: api.ErrValid}
}

func (w walker) facts() Facts {
	end := len(w.nodes)
	f := Facts{Out: w.places[end].set, Steps: w.places[end].steps}
	for _, p := range w.places[:end] {
		f.Seen = append(f.Seen, p.reached)
		f.Sets = append(f.Sets, p.set)
	}
	return f
}
