package flow_test

import (
	"slices"
	"testing"

	"shunter/api"
	"shunter/code"
	"shunter/flow"
	"shunter/ground"
	"shunter/image"
	"shunter/phv"
)

func below(seed *uint64, n int) int { return int(ground.Number(seed) % uint64(n)) }

// All code of up to four of a few instructions, on a stack of two slots and a slot behind it.
func TestShortCode(t *testing.T) {
	m := ground.LeastImage()
	m.Headers = []api.Header{{Name: "h", Fields: []api.Field{{Name: "f", W: 8}}}}
	m.Insts = []api.Inst{{Name: "two", Depth: 2}, {Name: "h"}}
	fixed := of(get(1), get(2), show(1), show(2), hide(2), op(api.OpPushHead, 0, 1), op(api.OpPopHead, 0, 1), stop())
	var over func(l []api.Ins, n int)
	over = func(l []api.Ins, n int) {
		if len(l) == n {
			for _, s := range []flow.Set{0, 7, 2, 5} {
				is(t, tell(flow.Code(m, l, s)), modelOf(m, l, s).code(), texts(l), s)
			}
			return
		}
		for _, in := range fixed {
			over(append(l, in), n)
		}
		for to := len(l) + 1; to <= n; to++ {
			over(append(l, jump(to)), n)
			over(append(l, zero(to)), n)
			over(append(l, gone(2, to)), n)
		}
	}
	for n := range 5 {
		over(nil, n)
	}
}

// mixed is code that layer 10 lets be, of n instructions, that asks for no field.
func mixed(seed *uint64, m api.Image, n int) []api.Ins {
	var l []api.Ins
	for at := range n {
		slot, to := below(seed, slots(m)), at+1+below(seed, min(8, n-at))
		switch below(seed, 12) {
		case 0, 1:
			l = append(l, show(slot))
		case 2:
			l = append(l, hide(slot))
		case 3:
			l = append(l, gone(slot, to))
		case 4:
			l = append(l, zero(to))
		case 5:
			l = append(l, moves(seed, m))
		case 6:
			l = append(l, [...]api.Ins{stop(), jump(to), jump(to), push(8)}[below(seed, 4)])
		default:
			l = append(l, push(8))
		}
	}
	return l
}

// moves is a push-head or a pop-head of one of the stacks.
func moves(seed *uint64, m api.Image) api.Ins {
	for {
		inst := below(seed, len(m.Insts))
		if m.Insts[inst].Depth > 0 {
			return op([...]api.Op{api.OpPushHead, api.OpPopHead}[below(seed, 2)], inst, 1+below(seed, 4))
		}
	}
}

// asking has fields be asked for where that is no fault (which changes nothing else), and at times where it is one.
func asking(seed *uint64, m api.Image, l []api.Ins, s flow.Set) []api.Ins {
	x := modelOf(m, l, s)
	out := slices.Clone(l)
	fault := below(seed, len(l)+1)
	for at, in := range l {
		slot := below(seed, slots(m))
		if in.Op == api.OpPush && (fault == at || !x.reached[at] || !x.gone(at, slot)) {
			out[at] = op([...]api.Op{api.OpField, api.OpPutField}[below(seed, 2)], slot, below(seed, fields(m, slot)))
		}
	}
	return out
}

func fields(m api.Image, slot int) int {
	h, _ := image.Slot(m, slot)
	return len(h.Fields)
}

// Promises 15.3 and 15.4: code is held against the model, and what is no fault is done.
func TestMixedCode(t *testing.T) {
	images := []api.Image{right(), many()}
	counts := map[api.Errno]int{}
	asked, changed := 0, 0
	for i := range 3000 {
		seed := uint64(i)
		m := images[i%2]
		s := flow.Set(ground.Number(&seed))
		l := asking(&seed, m, mixed(&seed, m, below(&seed, 65)), s)
		got := tell(flow.Code(m, l, s))
		is(t, got, modelOf(m, l, s).code(), i, texts(l), s)
		counts[got.e]++
		if got.e != api.OK {
			continue
		}
		if got.s&flow.All(m) != s&flow.All(m) {
			changed++
		}
		for range 3 {
			asked += done(t, &seed, m, l, s, got.s)
		}
	}
	if counts[api.OK] < 1500 || counts[api.ErrValid] < 400 || asked < 5000 || changed < 1000 {
		t.Error("too few of a kind:", counts, asked, changed)
	}
}

// done does code with the slots of a set there, and others as it comes; it tells how many fields were asked for.
func done(t *testing.T, seed *uint64, m api.Image, l []api.Ins, ahead, behind flow.Set) int {
	t.Helper()
	p := phv.New(m)
	for slot := range slots(m) {
		if ahead>>slot&1 == 1 || below(seed, 2) == 0 {
			p.Show(slot)
		}
	}
	asked := 0
	for at := 0; at < len(l) && l[at].Op != api.OpStop; {
		x := l[at]
		if isPlace(x) {
			asked++
		}
		next, e := one(seed, m, p, at, x)
		if e != api.OK {
			t.Fatalf("%s at %d of %s: %d", code.Text(x), at, texts(l), e)
		}
		at = next
	}
	for slot := range slots(m) {
		if behind>>slot&1 == 1 && !p.Has(slot) {
			t.Fatalf("the slot %d isn't there behind %s", slot, texts(l))
		}
	}
	return asked
}

// one does an instruction, as far as slots go, and tells where it leads.
func one(seed *uint64, m api.Image, p *phv.Phv, at int, x api.Ins) (int, api.Errno) {
	e := api.OK
	switch x.Op {
	case api.OpField:
		_, e = p.Get(x.A, x.B)
	case api.OpPutField:
		w, _ := image.Field(m, x.A, x.B)
		e = p.Put(x.A, x.B, api.Vec{W: w, Lo: 1})
	case api.OpShow:
		e = p.Show(x.A)
	case api.OpHide:
		e = p.Hide(x.A)
	case api.OpPushHead:
		e = p.Push(x.A, x.B)
	case api.OpPopHead:
		e = p.Pop(x.A, x.B)
	case api.OpJump:
		return x.A, e
	case api.OpJumpZero:
		if below(seed, 2) == 0 {
			return x.A, e
		}
	case api.OpJumpGone:
		if !p.Has(x.A) {
			return x.B, e
		}
	}
	return at + 1, e
}

// What Move tells is what a packet's headers do.
func TestMoveAsHeaders(t *testing.T) {
	m := many()
	for i := range 1000 {
		seed := uint64(i)
		s := flow.Set(ground.Number(&seed)) & flow.All(m)
		p := phv.New(m)
		for _, slot := range s.List() {
			p.Show(slot)
		}
		x := moves(&seed, m)
		n := x.B
		if x.Op == api.OpPopHead {
			n = -n
		}
		one(&seed, m, p, 0, x)
		var there flow.Set
		for slot := range slots(m) {
			if p.Has(slot) {
				there = there.With(slot)
			}
		}
		is(t, flow.Move(m, x.A, n, s), there, "Move", x.A, n, s)
	}
}

// What is made here may be; what may not be is asked elsewhere.
func TestMixedMayBe(t *testing.T) {
	for i := range 500 {
		seed := uint64(i)
		m := []api.Image{right(), many()}[i%2]
		if e := image.Code(m, nil, asking(&seed, m, mixed(&seed, m, i%65), 0)); e != api.OK {
			t.Fatal(i, e)
		}
	}
}
