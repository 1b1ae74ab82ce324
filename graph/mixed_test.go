package graph_test

import (
	"slices"
	"testing"

	"shunter/api"
	"shunter/flow"
	"shunter/graph"
	"shunter/ground"
	"shunter/image"
	"shunter/phv"
	"shunter/typing"
)

func below(seed *uint64, n int) int { return int(ground.Number(seed) % uint64(n)) }

// many has as many slots as there may be.
func many() api.Image {
	for _, m := range ground.Images() {
		if slots(m) == 32 {
			return m
		}
	}
	panic("no such image")
}

// mixed is an image with states as they come, most of which ask for no field that isn't surely there.
func mixed(seed *uint64) api.Image {
	m := []api.Image{ground.Image(), many()}[below(seed, 2)]
	m.Depth = 1 + below(seed, 32)
	n := 1 + below(seed, 16)
	m.States = ground.Several(api.State{}, n, func(x *api.State, s string) { x.Name = s })
	for i := range m.States {
		x := &m.States[i]
		for range below(seed, 5) {
			x.Exts = append(x.Exts, mixedExt(seed, m))
		}
		x.Keys = keys(meta(api.MetaIn))
		for range below(seed, 3) {
			x.Cases = append(x.Cases, api.Case{Value: api.Vec{W: 8}, Mask: api.Vec{W: 8, Lo: 1}, Next: to(seed, n)})
		}
		x.Next = to(seed, n)
	}
	ask(seed, m)
	return m
}

// to is a state, or at times an end.
func to(seed *uint64, n int) int { return below(seed, n+1+n/4)%(n+1) - 1 }

func mixedExt(seed *uint64, m api.Image) api.Ext {
	inst := below(seed, len(m.Insts))
	switch {
	case below(seed, 4) == 0:
		return skip(1 + below(seed, 64))
	case m.Insts[inst].Depth > 0:
		return another(inst)
	}
	first := 0
	for _, in := range m.Insts[:inst] {
		first += max(1, in.Depth)
	}
	return one(first)
}

// ask has keys ask for fields that are there by the model, and in one image of a few for one as it comes.
func ask(seed *uint64, m api.Image) {
	f := modelOf(m).check().f
	fault := below(seed, 4*len(m.States))
	for i := range m.States {
		x := &m.States[i]
		for slot := range slots(m) {
			sure := f.Sets[i]>>slot&1 == 1 || takes(*x, slot)
			h, _ := image.Slot(m, slot)
			if len(x.Keys) == 1 && len(x.Cases) == 0 && h.Fields[0].W <= 64 && (sure || i == fault) && below(seed, 2) == 0 {
				x.Keys = append(x.Keys, field(slot, 0))
			}
		}
	}
}

// Promises 16.1 to 16.3: images are held against the model, and ways are gone by on a packet's headers.
func TestMixedStates(t *testing.T) {
	wrongs, accepts, sure, full, unseen := 0, 0, 0, 0, 0
	for i := range 2000 {
		seed := uint64(i)
		m := mixed(&seed)
		if err := image.Check(m); err != nil {
			t.Fatal(i, err)
		}
		got := tell(graph.Check(m))
		is(t, got, modelOf(m).check(), i, m.States)
		if i%10 == 0 {
			statesAre(t, m)
		}
		if got.w != (typing.Wrong{}) {
			wrongs++
			continue
		}
		for _, s := range got.f.Sets {
			sure += len(s.List())
		}
		if slices.Contains(got.f.Seen, false) {
			unseen++
		}
		most, none := 0, phv.New(m)
		for range 5 {
			w := way{m: m, f: got.f, p: none.Copy()}
			if w.goOn(t, &seed) == accept {
				accepts++
			}
			most = max(most, w.bytes)
		}
		if most == got.f.Bytes {
			full++
		}
	}
	if wrongs < 70 || accepts < 1000 || sure < 5000 || full < 300 || unseen < 1000 {
		t.Error("too few of a kind:", wrongs, accepts, sure, full, unseen)
	}
}

// statesAre holds Leads and Takes against the model.
func statesAre(t *testing.T, m api.Image) {
	t.Helper()
	x := modelOf(m)
	for i, s := range m.States {
		leads := graph.Leads(m, i)
		for to := range m.States {
			is(t, slices.Contains(leads, to), slices.Contains(next(s), to), "Leads", i, to)
		}
		if !slices.IsSorted(leads) || len(slices.Compact(slices.Clone(leads))) != len(leads) || len(leads) > 0 && (leads[0] < 0 || leads[len(leads)-1] >= len(m.States)) {
			t.Fatal("Leads", i, leads)
		}
		bytes, steps := graph.Takes(m, i)
		want := 0
		for _, ext := range s.Exts {
			want += x.bytes(ext)
		}
		is(t, []int{bytes, steps}, []int{want, 1 + len(s.Exts)}, "Takes", i)
	}
}

// way is a parser on one of its ways, with what it has taken.
type way struct {
	m            api.Image
	f            graph.Facts
	p            *phv.Phv
	bytes, steps int
}

// goOn goes on from the state 0, by cases as they come, till it Accepts, or something ends it.
func (w *way) goOn(t *testing.T, seed *uint64) int {
	t.Helper()
	state := 0
	for range w.m.Depth {
		x := w.m.States[state]
		w.there(t, w.f.Sets[state])
		is(t, w.f.Seen[state], true, "the state", state)
		w.steps++
		for _, ext := range x.Exts {
			if !w.take(t, seed, ext) {
				return reject
			}
		}
		for _, k := range x.Keys {
			if k.Kind == api.KeyField {
				_, e := w.p.Get(k.A, k.B)
				is(t, e, api.OK, "a field of a key")
			}
		}
		l := next(x)
		state = l[below(seed, len(l))]
		if state < 0 {
			break
		}
	}
	if state == accept {
		is(t, w.f.Accepts, true, "Accepts")
		w.there(t, w.f.Accept)
	}
	return state
}

// take takes something, and tells whether it could be.
func (w *way) take(t *testing.T, seed *uint64, ext api.Ext) bool {
	w.steps++
	if ext.Kind == api.ExtSkip {
		w.bytes += ext.N
	} else {
		slot, e := ext.N, api.OK
		if ext.Kind == api.ExtNext {
			slot, e = w.p.Another(ext.N)
		}
		if e != api.OK {
			return false
		}
		n, e := w.p.Take(slot, w.data(seed, slot))
		if e != api.OK {
			return false
		}
		w.bytes += n
	}
	if w.bytes > w.f.Bytes || w.steps > w.f.Steps {
		t.Fatal(w.bytes, w.steps, "taken; at most", w.f.Bytes, w.f.Steps)
	}
	return true
}

// data is enough bytes for any header; at times as much of it varies as may.
func (w *way) data(seed *uint64, slot int) []byte {
	b := slices.Repeat([]byte{byte(ground.Number(seed))}, 512)
	if h, _ := image.Slot(w.m, slot); h.Name == "ip" && below(seed, 4) > 0 {
		b[0] = 0x4f
	}
	return b
}

// there asks a packet's headers for the slots of a set.
func (w *way) there(t *testing.T, s flow.Set) {
	t.Helper()
	for _, slot := range s.List() {
		if !w.p.Has(slot) {
			t.Fatalf("the slot %d isn't there", slot)
		}
	}
}

// All images of up to three states that take one thing at most, and lead to one or two.
func TestFewStates(t *testing.T) {
	var all []api.State
	for _, x := range [][]api.Ext{exts(), exts(one(0)), exts(one(4))} {
		for a := -1; a < 3; a++ {
			all = append(all, state(x, a))
			for b := a + 1; b < 3; b++ {
				all = append(all, state(x, a, b))
			}
		}
	}
	for i, a := range all {
		for j, b := range all {
			if !slices.ContainsFunc(append(next(a), next(b)...), func(n int) bool { return n == 2 }) {
				m := with(1+(i+j)%4, a, b)
				is(t, tell(graph.Check(m)), modelOf(m).check(), a, b)
			}
			for k := (i + j) % 5; k < len(all); k += 5 {
				m := with(1+(i+k)%5, a, b, all[k])
				is(t, tell(graph.Check(m)), modelOf(m).check(), a, b, all[k])
			}
		}
	}
}
