package graph

import (
	"slices"

	"shunter/api"
	"shunter/flow"
	"shunter/typing"
)

// statesPart is the part of an image that the states are, as layer 10 numbers them.
const statesPart = 4

// place is whether a state is reached, and what is surely there ahead of it by all ways found so far.
type place struct {
	reached bool
	set     flow.Set
}

// met is the place with one more way that comes to it.
func (p place) met(s flow.Set) place {
	if p.reached {
		s = s.Both(p.set)
	}
	return place{true, s}
}

// places are those of all states. States may lead back, and so they are gone over again till nothing changes. The state 0 begins with nothing, and so whatever leads there brings nothing.
func places(m api.Image) []place {
	l := make([]place, len(m.States))
	l[0].reached = true
	for goOver(m, l) {
	}
	return l
}

// goOver tells each state where a reached one leads of what is there behind that, and tells whether anything has changed.
func goOver(m api.Image, l []place) bool {
	changed := false
	for i, x := range m.States {
		if !l[i].reached {
			continue
		}
		s := behind(x, l[i].set)
		for _, to := range leads(x) {
			if p := l[to].met(s); p != l[to] {
				l[to], changed = p, true
			}
		}
	}
	return changed
}

// behind is what is surely there behind a state's extractions. Which slot of a stack is taken hangs on the way, and so those of stacks are sure nowhere.
func behind(x api.State, s flow.Set) flow.Set {
	for _, ext := range x.Exts {
		if ext.Kind == api.ExtOne {
			s = s.With(ext.N)
		}
	}
	return s
}

// accept is what is surely there when the parser Accepts, and whether it ever does.
func accept(m api.Image, l []place) (flow.Set, bool) {
	p := place{set: flow.All(m)}
	for i, x := range m.States {
		if l[i].reached && slices.Contains(nexts(x), api.Accept) {
			p = p.met(behind(x, l[i].set))
		}
	}
	return p.set, p.reached
}

// keys tells of the first part of a key that is a field that isn't surely there.
func keys(m api.Image, l []place) error {
	for i, x := range m.States {
		if !l[i].reached {
			continue
		}
		s := behind(x, l[i].set)
		for at, k := range x.Keys {
			if k.Kind == api.KeyField && !s.Has(k.A) {
				return &typing.Wrong{Part: statesPart, N: i, At: at, E: api.ErrValid}
			}
		}
	}
	return nil
}
