package graph_test

import (
	"reflect"
	"slices"
	"testing"

	"shunter/api"
	"shunter/flow"
	"shunter/graph"
	"shunter/ground"
	"shunter/typing"
)

// The model asks slot by slot whether a way leads to a state on which no state takes it, and tries the ways themselves for what they take.

// model asks no other layer.
type model struct {
	m    api.Image
	most map[[2]int][2]int // the most that is taken from a state on, in so many states
}

func modelOf(m api.Image) model { return model{m, map[[2]int][2]int{}} }

// next are the states, and the ends, where a state leads, each as often as it is told.
func next(x api.State) []int {
	l := []int{x.Next}
	for _, c := range x.Cases {
		l = append(l, c.Next)
	}
	return l
}

// come are the states to which a way leads from the state 0 on which none takes the slot ahead of it.
func (x model) come(slot int) map[int]bool {
	come := map[int]bool{}
	var to func(state int)
	to = func(state int) {
		if state < 0 || come[state] {
			return
		}
		come[state] = true
		if !takes(x.m.States[state], slot) {
			for _, n := range next(x.m.States[state]) {
				to(n)
			}
		}
	}
	to(0)
	return come
}

func takes(x api.State, slot int) bool {
	return slices.Contains(x.Exts, api.Ext{Kind: api.ExtOne, N: slot})
}

// told is what Check tells.
type told struct {
	f graph.Facts
	w typing.Wrong
}

func tell(f graph.Facts, err error) told {
	w, ok := typing.Why(err)
	if ok != (err != nil) {
		panic("another error")
	}
	return told{f, w}
}

// check is what Check tells of an image that layer 10 lets be.
func (x model) check() told {
	seen := x.come(-1)
	ahead, behind := make([]flow.Set, len(x.m.States)), make([]flow.Set, len(x.m.States))
	for slot := range slots(x.m) {
		come := x.come(slot)
		for i, s := range x.m.States {
			if seen[i] && !come[i] {
				ahead[i] |= 1 << slot
			}
			if ahead[i]>>slot&1 == 1 || takes(s, slot) {
				behind[i] |= 1 << slot
			}
		}
	}
	f := graph.Facts{Sets: ahead, Accept: 1<<slots(x.m) - 1}
	for i, s := range x.m.States {
		f.Seen = append(f.Seen, seen[i])
		if !seen[i] {
			continue
		}
		for at, k := range s.Keys {
			if k.Kind == api.KeyField && behind[i]>>k.A&1 == 0 {
				return told{w: typing.Wrong{Part: 4, N: i, At: at, E: api.ErrValid}}
			}
		}
		if slices.Contains(next(s), api.Accept) {
			f.Accept, f.Accepts = f.Accept&behind[i], true
		}
	}
	from := x.from(0, x.m.Depth)
	f.Bytes, f.Steps = from[0], from[1]
	return told{f: f}
}

// from is the most bytes, and the most steps, of ways from a state on.
func (x model) from(state, left int) [2]int {
	if state < 0 || left == 0 {
		return [2]int{}
	}
	if got, ok := x.most[[2]int{state, left}]; ok {
		return got
	}
	var most [2]int
	for _, n := range next(x.m.States[state]) {
		rest := x.from(n, left-1)
		most = [2]int{max(most[0], rest[0]), max(most[1], rest[1])}
	}
	for _, ext := range x.m.States[state].Exts {
		most[0] += x.bytes(ext)
	}
	most[1] += 1 + len(x.m.States[state].Exts)
	x.most[[2]int{state, left}] = most
	return most
}

func (x model) bytes(ext api.Ext) int {
	switch ext.Kind {
	case api.ExtSkip:
		return ext.N
	case api.ExtNext:
		return x.header(ext.N)
	}
	first := 0
	for i, in := range x.m.Insts {
		if first == ext.N && in.Depth == 0 {
			return x.header(i)
		}
		first += max(1, in.Depth)
	}
	panic("no such slot")
}

func (x model) header(inst int) int {
	h := x.m.Headers[x.m.Insts[inst].Header]
	n := 0
	for _, f := range h.Fields {
		n += f.W
	}
	return n/8 + h.Var
}

// slots is how many slots an image has.
func slots(m api.Image) int {
	n := 0
	for _, in := range m.Insts {
		n += max(1, in.Depth)
	}
	return n
}

// Short words for states and what is theirs.

// with is the image of package ground with other states; what else asks for what the parser takes is no matter of this layer. Slots: eth 0 (14 bytes), tags (the instance 1, of 4 bytes) 1 to 3, ip 4 (4 bytes, and 40 at most), odd (the instance 3, a stack of one, of 22 bytes) 5, in 6 (as ip).
func with(depth int, l ...api.State) api.Image {
	return ground.Changed(func(m *api.Image) {
		m.Depth = depth
		m.States = l
		for i := range l {
			l[i].Name = "s" + string(rune('a'+i))
		}
	})
}

// state has a key of no moment where it has cases.
func state(exts []api.Ext, to ...int) api.State {
	x := api.State{Exts: exts, Next: to[0]}
	for _, n := range to[1:] {
		x.Keys = keys(meta(api.MetaIn))
		x.Cases = append(x.Cases, api.Case{Value: api.Vec{W: 8}, Mask: api.Vec{W: 8}, Next: n})
	}
	return x
}

// asks is a state with another key, which no case asks for.
func asks(x api.State, l ...api.Key) api.State {
	x.Keys, x.Cases = l, nil
	return x
}

func exts(l ...api.Ext) []api.Ext { return l }

func one(slot int) api.Ext { return api.Ext{Kind: api.ExtOne, N: slot} }

func another(inst int) api.Ext { return api.Ext{Kind: api.ExtNext, N: inst} }

func skip(n int) api.Ext { return api.Ext{Kind: api.ExtSkip, N: n} }

func keys(l ...api.Key) []api.Key { return l }

func field(slot, f int) api.Key { return api.Key{Kind: api.KeyField, A: slot, B: f} }

func meta(i int) api.Key { return api.Key{Kind: api.KeyMeta, A: i} }

func look(ahead, n int) api.Key { return api.Key{Kind: api.KeyLook, A: ahead, B: n} }

func set(l ...int) flow.Set {
	var s flow.Set
	for _, slot := range l {
		s |= 1 << slot
	}
	return s
}

func sets(l ...flow.Set) []flow.Set { return l }

func is(t *testing.T, got, want any, what ...any) {
	t.Helper()
	if !reflect.DeepEqual(got, want) {
		t.Fatalf("%v = %v; want %v", what, got, want)
	}
}
