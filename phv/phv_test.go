package phv_test

import (
	"math"
	"slices"
	"testing"

	"shunter/api"
	"shunter/ground"
	"shunter/image"
	"shunter/phv"
)

// odds are numbers that no thing of an image has, and at which sums and differences go round.
func odds(count int) []int {
	return []int{math.MinInt, math.MinInt + 1, math.MinInt32, -count, -2, -1, count, count + 1, 256, 65536, math.MaxInt32, math.MaxInt - 1, math.MaxInt}
}

func vecOf(w int, lo uint64) api.Vec { return api.Vec{W: w, Lo: lo} }

func wide() api.Vec { return api.Vec{W: 128, Hi: math.MaxUint64, Lo: math.MaxUint64} }

// made is of ground's image, with the slots eth 0, tags 1 to 3, ip 4, odd 5 (a stack of one) and in 6.
func made(t *testing.T) *phv.Phv {
	t.Helper()
	p := phv.New(ground.Image())
	if p == nil {
		t.Fatal("New = nil")
	}
	return p
}

// Promise 13.1: New.

func TestNewByHand(t *testing.T) {
	p := made(t)
	eth := []api.Vec{vecOf(48, 0), vecOf(48, 0), vecOf(16, 0)}
	tag := []api.Vec{vecOf(3, 0), vecOf(1, 0), vecOf(12, 0), vecOf(16, 0)}
	ip := []api.Vec{vecOf(4, 0), vecOf(4, 0), vecOf(8, 0), vecOf(16, 0)}
	odd := []api.Vec{vecOf(8, 0), vecOf(16, 0), vecOf(8, 0), vecOf(128, 0), vecOf(16, 0)}
	is(t, p.Fields, [][]api.Vec{eth, tag, tag, tag, ip, odd, ip}, "Fields")
	is(t, p.Valid, make([]bool, 7), "Valid")
	is(t, p.Next, make([]int, 5), "Next")
	is(t, p.Metas, []api.Vec{vecOf(8, 0), vecOf(8, 0), vecOf(8, 0), vecOf(1, 0), vecOf(8, 0), vecOf(1, 0), vecOf(16, 0), vecOf(8, 0), vecOf(8, 0), vecOf(128, 0), vecOf(1, 0)}, "Metas")
	is(t, len(p.Vars), 7, "as many Vars")
	for i, b := range p.Vars {
		is(t, len(b), 0, "Vars", i)
	}
}

func TestNewOfTheLeast(t *testing.T) {
	p := phv.New(ground.LeastImage())
	if len(p.Valid)+len(p.Fields)+len(p.Vars)+len(p.Next) != 0 || len(p.Metas) != 8 {
		t.Errorf("New = %v", p)
	}
	for slot := -1; slot < 3; slot++ {
		is(t, p.Has(slot), false, "Has", slot)
		is(t, p.Show(slot), api.ErrNone, "Show", slot)
		is(t, ofNumber(p.Take(slot, ground.Bytes(9))), answer{e: api.ErrNone}, "Take", slot)
		is(t, ofNumber(p.Another(slot)), answer{e: api.ErrNone}, "Another", slot)
		is(t, p.Push(slot, 1), api.ErrNone, "Push", slot)
	}
}

// Whatever is wrong with an image, in whichever part, it has no packets.
func TestNewOfFlaws(t *testing.T) {
	for i, in := range []func(m *api.Image){
		func(m *api.Image) { m.Name = "" },
		func(m *api.Image) { m.Ports = 65 },
		func(m *api.Image) { m.Headers[0].Fields[0].W = 49 },
		func(m *api.Image) { m.Headers[2].Var = 65 },
		func(m *api.Image) { m.Insts[1].Depth = 5 },
		func(m *api.Image) { m.Insts[1].Header = 4 },
		func(m *api.Image) { m.Insts[1].Name = "ETH" },
		func(m *api.Image) { m.Metas[0].W = 129 },
		func(m *api.Image) { m.States = nil },
		func(m *api.Image) { m.Actions[1].Code[0].A = 2 },
		func(m *api.Image) { m.Tables[0].Size = 0 },
		func(m *api.Image) { m.Ingress[0].Yes = 0 },
		func(m *api.Image) { m.Egress[0].A = 7 },
		func(m *api.Image) { m.Deparse[0] = 0 },
		func(m *api.Image) { m.Checks[0].Field = 4 },
		func(m *api.Image) { m.Updates[0].Slot = 7 },
		func(m *api.Image) { m.Regs[0].Log = 9 },
		func(m *api.Image) { m.Counters[0].Log = 0 },
		func(m *api.Image) { m.Meters[0].Burst = 0 },
	} {
		m := ground.Changed(in)
		if image.Check(m) == nil {
			t.Fatal("no flaw:", i)
		}
		if p := phv.New(m); p != nil {
			t.Errorf("New of the flaw %d = %v", i, p)
		}
	}
	if p := phv.New(api.Image{}); p != nil {
		t.Errorf("New of a zero image = %v", p)
	}
}

// At first no slot is there, all rows are 0, nothing varies and nothing was taken, whatever the image has.
func TestNewAtFirst(t *testing.T) {
	for i, m := range append(ground.Images(), stacked()) {
		stands(t, phv.New(m), modelOf(m), i)
	}
}

// Promise 13.1: Has, Get and Put.

func TestHas(t *testing.T) {
	p := made(t)
	for _, slot := range odds(7) {
		is(t, p.Has(slot), false, "Has", slot)
	}
	for slot := range 7 {
		is(t, p.Has(slot), false, "Has", slot)
		p.Show(slot)
		is(t, p.Has(slot), true, "Has", slot)
		is(t, p.Has(slot+1), false, "Has", slot+1)
	}
	p.Hide(3)
	is(t, []bool{p.Has(2), p.Has(3), p.Has(4)}, []bool{true, false, true}, "Has")
}

func TestGetAndPut(t *testing.T) {
	p := made(t)
	for slot, fields := range [][]int{{48, 48, 16}, {3, 1, 12, 16}, {3, 1, 12, 16}, {3, 1, 12, 16}, {4, 4, 8, 16}, {8, 16, 8, 128, 16}, {4, 4, 8, 16}} {
		p.Show(slot)
		for f, w := range fields {
			is(t, ofRow(p.Get(slot, f)), answer{bits: noughts(w)}, "Get", slot, f)
			v := rowOf(spread(ground.Bytes(16 + f))[:w])
			is(t, p.Put(slot, f, v), api.OK, "Put", slot, f, v)
			got, e := p.Get(slot, f)
			is(t, got, v, "Get", slot, f, e)
			is(t, p.Fields[slot][f], v, "Fields", slot, f)
		}
	}
}

// That there is none comes ahead of that it isn't there, and that ahead of the row's width.
func TestGetAndPutTellTheFirstFault(t *testing.T) {
	p := made(t)
	wrong := []api.Vec{{}, vecOf(48, 0), {W: 5}, {W: -1}, {W: 128, Hi: 1}, {W: 4, Lo: 16}, {W: 4, Hi: 1}, {W: math.MinInt}, {W: math.MaxInt}}
	for range 2 { // of slots that aren't there, and of those that are
		for _, v := range append(wrong, vecOf(4, 1)) {
			for _, slot := range odds(7) {
				for _, f := range []int{-1, 0, 3, 4, math.MaxInt} {
					is(t, ofRow(p.Get(slot, f)), answer{e: api.ErrNone}, "Get", slot, f)
					is(t, p.Put(slot, f, v), api.ErrNone, "Put", slot, f, v)
				}
			}
			for _, f := range odds(4) {
				is(t, ofRow(p.Get(4, f)), answer{e: api.ErrNone}, "Get", 4, f)
				is(t, p.Put(4, f, v), api.ErrNone, "Put", 4, f, v)
			}
		}
		p.Show(4)
	}
	for _, v := range append(wrong, vecOf(4, 1)) {
		is(t, p.Put(6, 0, v), api.ErrValid, "Put", 6, 0, v)
		is(t, ofRow(p.Get(6, 0)), answer{e: api.ErrValid}, "Get", 6, 0)
	}
	is(t, p.Put(4, 1, vecOf(4, 9)), api.OK, "Put")
	for _, v := range wrong {
		is(t, p.Put(4, 1, v), api.ErrWidth, "Put", 4, 1, v)
		is(t, ofRow(p.Get(4, 1)), answer{bits: "1001"}, "Get", 4, 1)
	}
	is(t, p.Put(4, 1, vecOf(4, 15)), api.OK, "Put of the greatest number")
	p.Show(5)
	is(t, p.Put(5, 3, wide()), api.OK, "Put of the widest row")
	is(t, p.Put(5, 3, vecOf(127, 1)), api.ErrWidth, "Put of a row of one bit less")
	is(t, p.Put(5, 3, vecOf(129, 1)), api.ErrWidth, "Put of a row that is too wide")
	is(t, p.Put(5, 0, api.Vec{W: 8, Lo: 256}), api.ErrWidth, "Put of a number that is too great")
	is(t, ofRow(p.Get(5, 3)), answer{bits: digits(wide())}, "Get")
}

// Promise 13.1: Meta, PutMeta and Begin.

func TestMetas(t *testing.T) {
	p := made(t)
	widths := []int{8, 8, 8, 1, 8, 1, 16, 8, 8, 128, 1}
	for i, w := range widths {
		is(t, ofRow(p.Meta(i)), answer{bits: noughts(w)}, "Meta", i)
		v := rowOf(spread(ground.Bytes(16 + i))[16:][:w])
		if slices.Contains([]int{api.MetaIn, api.MetaSize, api.MetaRound}, i) {
			is(t, p.PutMeta(i, v), api.ErrKind, "PutMeta", i, v)
			v = vecOf(w, 0)
		} else {
			is(t, p.PutMeta(i, v), api.OK, "PutMeta", i, v)
		}
		got, e := p.Meta(i)
		is(t, got, v, "Meta", i, e)
		is(t, p.Metas[i], v, "Metas", i)
	}
}

func TestMetasTellTheFirstFault(t *testing.T) {
	p := made(t)
	wrong := []api.Vec{{}, vecOf(7, 0), vecOf(9, 0), {W: 8, Lo: 256}, {W: 8, Hi: 1}, {W: -8}, vecOf(16, 0), vecOf(1, 0), {W: math.MaxInt}}
	for _, v := range append(wrong, vecOf(8, 1)) {
		for _, i := range odds(11) {
			is(t, ofRow(p.Meta(i)), answer{e: api.ErrNone}, "Meta", i)
			is(t, p.PutMeta(i, v), api.ErrNone, "PutMeta", i, v)
		}
		for _, i := range []int{api.MetaIn, api.MetaSize, api.MetaRound} {
			is(t, p.PutMeta(i, v), api.ErrKind, "PutMeta", i, v)
		}
	}
	for _, i := range []int{api.MetaOut, api.MetaGroup, api.MetaClone, 8} {
		is(t, p.PutMeta(i, vecOf(8, 255)), api.OK, "PutMeta", i)
		for _, v := range wrong {
			is(t, p.PutMeta(i, v), api.ErrWidth, "PutMeta", i, v)
			is(t, ofRow(p.Meta(i)), answer{bits: "11111111"}, "Meta", i)
		}
	}
	is(t, p.PutMeta(9, wide()), api.OK, "PutMeta of the widest row")
	is(t, p.PutMeta(api.MetaDrop, vecOf(1, 2)), api.ErrWidth, "PutMeta")
	is(t, p.PutMeta(10, vecOf(1, 1)), api.OK, "PutMeta")
	is(t, p.PutMeta(11, vecOf(1, 1)), api.ErrNone, "PutMeta")
	least := phv.New(ground.LeastImage())
	is(t, least.PutMeta(7, vecOf(8, 1)), api.ErrKind, "PutMeta")
	is(t, least.PutMeta(8, vecOf(8, 1)), api.ErrNone, "PutMeta")
	is(t, ofRow(least.Meta(8)), answer{e: api.ErrNone}, "Meta")
}

func TestBegin(t *testing.T) {
	p := made(t)
	begun := func() [3]api.Vec {
		return [3]api.Vec{p.Metas[api.MetaIn], p.Metas[api.MetaSize], p.Metas[api.MetaRound]}
	}
	for _, c := range [][3]int{{1, 2, 3}, {255, 65535, 255}, {0, 0, 0}, {255, 0, 0}, {0, 65535, 0}, {0, 0, 255}, {64, 9216, 4}} {
		is(t, p.Begin(c[0], c[1], c[2]), api.OK, "Begin", c)
		is(t, begun(), [3]api.Vec{vecOf(8, uint64(c[0])), vecOf(16, uint64(c[1])), vecOf(8, uint64(c[2]))}, "begun", c)
	}
	kept := begun()
	for _, n := range []int{math.MinInt, math.MinInt + 1, -256, -1, 256, 257, 65536, 1 << 32, 1<<32 + 1, math.MaxInt} {
		is(t, p.Begin(n, 1, 1), api.ErrRange, "Begin", n, 1, 1)
		is(t, p.Begin(1, 1, n), api.ErrRange, "Begin", 1, 1, n)
		if n < 0 || n > 65535 {
			is(t, p.Begin(1, n, 1), api.ErrRange, "Begin", 1, n, 1)
		}
		is(t, begun(), kept, "begun behind what was refused", n)
	}
	for i, v := range p.Metas {
		if i != api.MetaIn && i != api.MetaSize && i != api.MetaRound && v.Lo != 0 {
			t.Errorf("Begin wrote the metadata %d: %v", i, v)
		}
	}
}

// Of a nil one there is nothing, whatever is asked.
func TestNil(t *testing.T) {
	var p *phv.Phv
	none := answer{e: api.ErrArg}
	for _, n := range append(odds(5), 0, 1, 2, 3, 4, 6, 7) {
		is(t, p.Has(n), false, "Has", n)
		is(t, ofRow(p.Get(n, 0)), none, "Get", n)
		is(t, p.Put(n, 0, vecOf(8, 1)), api.ErrArg, "Put", n)
		is(t, ofRow(p.Meta(n)), none, "Meta", n)
		is(t, p.PutMeta(n, vecOf(8, 1)), api.ErrArg, "PutMeta", n)
		is(t, p.Begin(n, 0, 0), api.ErrArg, "Begin", n)
		is(t, p.Show(n), api.ErrArg, "Show", n)
		is(t, p.Hide(n), api.ErrArg, "Hide", n)
		is(t, p.Push(n, n), api.ErrArg, "Push", n)
		is(t, p.Pop(n, n), api.ErrArg, "Pop", n)
		is(t, ofNumber(p.Take(n, ground.Bytes(9))), none, "Take", n)
		is(t, ofNumber(p.Another(n)), none, "Another", n)
		is(t, ofBytes(p.Bytes(n)), none, "Bytes", n)
	}
	is(t, p.Copy() == nil, true, "Copy of nil")
}
