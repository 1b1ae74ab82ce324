package phv_test

import (
	"fmt"
	"math"
	"slices"
	"testing"

	"shunter/api"
	"shunter/ground"
	"shunter/phv"
)

// walker calls things in an order that is mixed, but the same in each run.
type walker struct {
	x uint64
	p *phv.Phv
	m *model
}

// upTo is a number from 0 to n; mostly one that there is, if n is how many there are.
func (w *walker) upTo(n int) int {
	return int(ground.Number(&w.x) % uint64(n+1))
}

// near is mostly a number below n, and at times another one.
func (w *walker) near(n int) int {
	if n > 0 && w.upTo(9) > 0 {
		return w.upTo(n - 1)
	}
	return pick(w, []int{math.MinInt, -1, n, n + 1, math.MaxInt})
}

func pick[T any](w *walker, l []T) T { return l[w.upTo(len(l)-1)] }

// row is mostly one as wide as is asked.
func (w *walker) row(width int) api.Vec {
	v := api.Vec{W: width, Hi: ground.Number(&w.x), Lo: ground.Number(&w.x)}
	switch w.upTo(15) {
	case 0:
		v.W = pick(w, []int{math.MinInt, -1, 0, 1, 8, 64, 128, 129})
	case 1:
		return v // its number may be too great
	}
	if v.W < 128 {
		v.Hi &= 1<<max(v.W-64, 0) - 1
	}
	if v.W < 64 {
		v.Lo &= 1<<max(v.W, 0) - 1
	}
	return v
}

// packet has mostly so many bytes as the slot's header, and, if they vary, mostly as many as are told by them.
func (w *walker) packet(slot int) []byte {
	b := ground.Bytes(w.upTo(340))
	if slot < 0 || slot >= len(w.m.kinds) || w.upTo(3) == 0 {
		return b
	}
	at := 0
	for f, kind := range w.m.kinds[slot].Fields {
		if h := w.m.kinds[slot]; h.Var > 0 && f == h.By {
			n := (w.upTo(h.Var+2*h.Mul) + h.Sub) / h.Mul
			for i := range kind.W {
				if in := (at + i) / 8; in < len(b) {
					bit := byte(1) << (7 - (at+i)%8)
					b[in] &^= bit
					if n>>(kind.W-1-i)&1 == 1 {
						b[in] |= bit
					}
				}
			}
		}
		at += kind.W
	}
	return b
}

// step makes one call of both, and tells it with what both answer.
func (w *walker) step() (string, answer, answer) {
	p, m := w.p, w.m
	slot, inst := w.near(len(m.places)), w.near(len(m.stacks))
	n := w.near(5)
	f, width := w.near(3), 8
	if s := m.field(slot, 0); s != nil {
		f = w.near(len(m.places[slot].fields))
		if s := m.field(slot, f); s != nil {
			width = len(*s)
		}
	}
	switch w.upTo(13) {
	case 0:
		return fmt.Sprint("Get ", slot, f), ofRow(p.Get(slot, f)), m.get(slot, f)
	case 1, 2:
		v := w.row(width)
		return fmt.Sprint("Put ", slot, f, v), ofError(p.Put(slot, f, v)), m.put(slot, f, v)
	case 3:
		i := w.near(len(m.metas))
		return fmt.Sprint("Meta ", i), ofRow(p.Meta(i)), m.meta(i)
	case 4:
		i := w.near(len(m.metas))
		if i >= 0 && i < len(m.metas) {
			width = len(m.metas[i])
		}
		v := w.row(width)
		return fmt.Sprint("PutMeta ", i, v), ofError(p.PutMeta(i, v)), m.putMeta(i, v)
	case 5:
		in, size, round := w.near(256), w.near(65536), w.near(256)
		return fmt.Sprint("Begin ", in, size, round), ofError(p.Begin(in, size, round)), m.begin(in, size, round)
	case 6:
		return fmt.Sprint("Show ", slot), ofError(p.Show(slot)), m.show(slot)
	case 7:
		return fmt.Sprint("Hide ", slot), ofError(p.Hide(slot)), m.hide(slot)
	case 8:
		return fmt.Sprint("Push ", inst, n), ofError(p.Push(inst, n)), m.push(inst, n)
	case 9:
		return fmt.Sprint("Pop ", inst, n), ofError(p.Pop(inst, n)), m.pop(inst, n)
	case 10:
		return fmt.Sprint("Another ", inst), ofNumber(p.Another(inst)), m.another(inst)
	case 11:
		return fmt.Sprint("Bytes ", slot), ofBytes(p.Bytes(slot)), m.bytes(slot)
	}
	b := w.packet(slot)
	return fmt.Sprintf("Take %d %x", slot, b), ofNumber(p.Take(slot, b)), m.take(slot, b)
}

// Promises 13.1 to 13.3: behind any calls, all is as the model has it, and what is refused changes nothing.
func TestWalks(t *testing.T) {
	met := map[string]int{}
	for i, m := range append(ground.Images(), stacked()) {
		w := &walker{uint64(i), phv.New(m), modelOf(m)}
		var calls []string
		for range 3000 {
			call, got, want := w.step()
			calls = append(calls, call)
			if got != want {
				t.Fatalf("the image %d: %s = %v; want %v; behind %q", i, call, got, want, calls[max(0, len(calls)-20):])
			}
			stands(t, w.p, w.m, i, call)
			var name string
			fmt.Sscan(call, &name)
			met[fmt.Sprint(name, " ", want.e)]++
		}
	}
	for _, s := range []string{"Get 0", "Get 5", "Get 11", "Put 0", "Put 5", "Put 9", "Put 11", "Meta 0", "Meta 5", "PutMeta 0", "PutMeta 5", "PutMeta 9", "PutMeta 10", "Begin 0", "Begin 7", "Show 0", "Show 5", "Hide 0", "Hide 5", "Push 0", "Push 5", "Push 7", "Pop 0", "Pop 5", "Pop 7", "Take 0", "Take 3", "Take 4", "Take 5", "Another 0", "Another 5", "Another 8", "Bytes 0", "Bytes 5", "Bytes 11"} {
		if met[s] < 10 {
			t.Errorf("the walks met %s only %d times", s, met[s])
		}
	}
	if len(met) != 35 {
		t.Errorf("the walks met %d things: %v", len(met), met)
	}
}

// stacked has a stack of each depth there may be, of headers that vary, and of one without anything that varies.
func stacked() api.Image {
	m := ground.LeastImage()
	m.Headers = []api.Header{
		{Name: "v", Fields: []api.Field{{Name: "x", W: 3}, {Name: "n", W: 5}}, Var: 7, By: 1, Mul: 1, Sub: 1},
		{Name: "h", Fields: []api.Field{{Name: "a", W: 8}, {Name: "b", W: 8}}},
	}
	for depth := range 5 {
		m.Insts = append(m.Insts, api.Inst{Name: string(rune('a' + depth)), Header: 0, Depth: depth}, api.Inst{Name: string(rune('p' + depth)), Header: 1, Depth: depth})
	}
	return m
}

// whole are the slots of a stack, as they are told.
func whole(p *phv.Phv, first, depth int) []string {
	var l []string
	for slot := first; slot < first+depth; slot++ {
		l = append(l, fmt.Sprintf("%t %v %x", p.Valid[slot], p.Fields[slot], p.Vars[slot]))
	}
	return l
}

// Promise 13.5: a Push, and a Pop of as much, leaves the slots that weren't pushed out as they were.
func TestPushAndPop(t *testing.T) {
	first := 2 // of the slots behind those of the Depth 0
	for inst := 2; inst < 10; inst++ {
		depth := inst / 2
		for n := 1; n <= 4; n++ {
			for there := range 1 << depth {
				p := phv.New(stacked())
				for i := range depth {
					if there>>i&1 == 1 {
						if _, e := p.Take(first+i, []byte{byte(32*i + 4), byte(i), byte(i + 1), byte(i + 2)}); e != api.OK {
							t.Fatal("Take:", e)
						}
					}
				}
				was := whole(p, first, depth)
				other := append(whole(p, 0, first), whole(p, first+depth, len(p.Valid)-first-depth)...)
				is(t, p.Push(inst, n), api.OK, "Push", inst, n)
				pushed := whole(p, first, depth)
				is(t, p.Pop(inst, n), api.OK, "Pop", inst, n)
				popped := whole(p, first, depth)
				stay := max(0, depth-n)
				none := whole(phv.New(stacked()), first, depth)
				is(t, pushed, slices.Concat(none[:depth-stay], was[:stay]), "pushed", inst, n)
				is(t, popped, slices.Concat(was[:stay], none[stay:]), "popped", inst, n)
				is(t, append(whole(p, 0, first), whole(p, first+depth, len(p.Valid)-first-depth)...), other, "the other slots", inst, n)
			}
		}
		first += depth
	}
}
