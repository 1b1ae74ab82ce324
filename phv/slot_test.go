package phv_test

import (
	"slices"
	"testing"

	"shunter/api"
	"shunter/ground"
	"shunter/phv"
)

// Promise 13.2: Show and Hide.

func TestShowAndHide(t *testing.T) {
	p := made(t)
	for _, slot := range odds(7) {
		is(t, p.Show(slot), api.ErrNone, "Show", slot)
		is(t, p.Hide(slot), api.ErrNone, "Hide", slot)
	}
	x := modelOf(ground.Image())
	stands(t, p, x, "behind what was refused")
	for slot := range 7 {
		is(t, p.Hide(slot), api.OK, "Hide of what isn't there", slot)
		is(t, p.Show(slot), api.OK, "Show", slot)
		x.show(slot)
		stands(t, p, x, "Show", slot)
	}
	ip := bytesOf("46 0a 1234 01020304")
	is(t, ofNumber(p.Take(4, ip)), answer{n: 8}, "Take")
	is(t, p.Show(4), api.OK, "Show of what is there")
	is(t, ofBytes(p.Bytes(4)), answer{bits: spread(ip)}, "Bytes")
	is(t, p.Hide(4), api.OK, "Hide")
	stands(t, p, &model{kinds: x.kinds, stacks: x.stacks, next: x.next, metas: x.metas, places: slices.Concat(x.places[:4], []place{gone(x.kinds[4])}, x.places[5:])}, "Hide")
	is(t, p.Show(4), api.OK, "Show")
	is(t, ofBytes(p.Bytes(4)), answer{bits: noughts(32)}, "Bytes of what was hidden")
	stands(t, p, x, "Show behind Hide")
}

// Promise 13.2: Push and Pop, on a stack of tags with the ids 1, 2, 3, or 0 of a slot that isn't there.

func tags(t *testing.T, ids ...uint64) *phv.Phv {
	t.Helper()
	p := made(t)
	for i, id := range ids {
		if id != 0 {
			p.Show(1 + i)
			is(t, p.Put(1+i, 2, vecOf(12, id)), api.OK, "Put")
		}
	}
	return p
}

func ids(p *phv.Phv) [3]uint64 {
	var l [3]uint64
	for i := range l {
		if p.Has(1 + i) {
			l[i] = p.Fields[1+i][2].Lo
		} else if p.Fields[1+i][2] != vecOf(12, 0) {
			l[i] = 1 << 32 // what isn't there has rows of 0
		}
	}
	return l
}

func TestPushByHand(t *testing.T) {
	for _, c := range []struct {
		was  []uint64
		n    int
		want [3]uint64
	}{
		{[]uint64{1, 2, 3}, 1, [3]uint64{0, 1, 2}}, {[]uint64{1, 2, 3}, 2, [3]uint64{0, 0, 1}}, {[]uint64{1, 2, 3}, 3, [3]uint64{}}, {[]uint64{1, 2, 3}, 4, [3]uint64{}},
		{[]uint64{1, 0, 3}, 1, [3]uint64{0, 1, 0}}, {[]uint64{0, 2, 0}, 1, [3]uint64{0, 0, 2}}, {[]uint64{0, 2, 3}, 2, [3]uint64{}}, {[]uint64{0, 0, 0}, 1, [3]uint64{}}, {[]uint64{1, 0, 0}, 2, [3]uint64{0, 0, 1}},
	} {
		p := tags(t, c.was...)
		is(t, p.Push(1, c.n), api.OK, "Push", 1, c.n)
		is(t, ids(p), c.want, "pushed", c.was, c.n)
	}
}

func TestPopByHand(t *testing.T) {
	for _, c := range []struct {
		was  []uint64
		n    int
		want [3]uint64
	}{
		{[]uint64{1, 2, 3}, 1, [3]uint64{2, 3, 0}}, {[]uint64{1, 2, 3}, 2, [3]uint64{3, 0, 0}}, {[]uint64{1, 2, 3}, 3, [3]uint64{}}, {[]uint64{1, 2, 3}, 4, [3]uint64{}},
		{[]uint64{1, 0, 3}, 1, [3]uint64{0, 3, 0}}, {[]uint64{0, 2, 0}, 1, [3]uint64{2, 0, 0}}, {[]uint64{1, 2, 0}, 2, [3]uint64{}}, {[]uint64{0, 0, 3}, 2, [3]uint64{3, 0, 0}},
	} {
		p := tags(t, c.was...)
		is(t, p.Pop(1, c.n), api.OK, "Pop", 1, c.n)
		is(t, ids(p), c.want, "popped", c.was, c.n)
	}
}

// That it is no stack comes ahead of the number; what was taken of it, and the other slots, stay.
func TestPushAndPopTellTheFirstFault(t *testing.T) {
	p := tags(t, 1, 2, 3)
	p.Show(0)
	p.Show(4)
	p.Another(1)
	kept := p.Copy()
	numbers := append(odds(5), 0, 1, 4)
	for _, inst := range append(odds(5), 0, 2, 4) {
		for _, n := range numbers {
			is(t, p.Push(inst, n), api.ErrNone, "Push", inst, n)
			is(t, p.Pop(inst, n), api.ErrNone, "Pop", inst, n)
		}
	}
	for _, inst := range []int{1, 3} {
		for _, n := range append(odds(5), 0) {
			is(t, p.Push(inst, n), api.ErrRange, "Push", inst, n)
			is(t, p.Pop(inst, n), api.ErrRange, "Pop", inst, n)
		}
	}
	is(t, phv.Same(p, kept), true, "behind what was refused")
	is(t, p.Push(3, 4), api.OK, "Push on a stack of one")
	is(t, p.Pop(3, 1), api.OK, "Pop of a stack of one")
	is(t, phv.Same(p, kept), true, "behind what moved nothing")
	p.Push(1, 1)
	is(t, p.Next, []int{0, 1, 0, 0, 0}, "Next behind a Push")
	p.Pop(1, 2)
	is(t, p.Next, []int{0, 1, 0, 0, 0}, "Next behind a Pop")
	is(t, []bool{p.Has(0), p.Has(4), p.Has(5)}, []bool{true, true, false}, "the slots beside the stack")
}

// All that a slot has goes along: what varies of it, too.
func TestWhatVariesIsMoved(t *testing.T) {
	m := stacked()
	p := phv.New(m)
	first := 2 + 2 + 4 + 6 // the stack of four headers that vary: its instance is 8
	one, two := bytesOf("23 0102"), bytesOf("a1")
	is(t, ofNumber(p.Take(first, one)), answer{n: 3}, "Take")
	is(t, ofNumber(p.Take(first+3, two)), answer{n: 1}, "Take")
	is(t, p.Push(8, 2), api.OK, "Push")
	is(t, []bool{p.Has(first), p.Has(first + 1), p.Has(first + 2), p.Has(first + 3)}, []bool{false, false, true, false}, "pushed")
	is(t, ofBytes(p.Bytes(first+2)), answer{bits: spread(one)}, "Bytes of what was pushed")
	is(t, []int{len(p.Vars[first]), len(p.Vars[first+1]), len(p.Vars[first+2]), len(p.Vars[first+3])}, []int{0, 0, 2, 0}, "what varies")
	is(t, p.Pop(8, 1), api.OK, "Pop")
	is(t, ofBytes(p.Bytes(first+1)), answer{bits: spread(one)}, "Bytes of what was popped")
	is(t, []int{len(p.Vars[first]), len(p.Vars[first+1]), len(p.Vars[first+2]), len(p.Vars[first+3])}, []int{0, 2, 0, 0}, "what varies")
}

// Promise 13.3: Take.

func TestTakeByHand(t *testing.T) {
	for _, c := range []struct {
		slot int
		b    string
		want answer
	}{
		{1, "6abc 0800", answer{n: 4}}, {1, "6abc 0800 ff", answer{n: 4}}, {1, "6abc 08", answer{e: api.ErrEnd}}, {1, "", answer{e: api.ErrEnd}}, {0, "010203040506 112233445566 0800", answer{n: 14}}, {0, "010203040506 112233445566 08", answer{e: api.ErrEnd}},
		// ip varies by 4 ihl - 20 bytes, at most 40.
		{4, "45 00 0000", answer{n: 4}}, {4, "45 00 0000 01", answer{n: 4}}, {4, "46 00 0000 01020304", answer{n: 8}}, {4, "46 00 0000 0102030405", answer{n: 8}}, {4, "46 00 0000 010203", answer{e: api.ErrEnd}}, {4, "46 00 0000", answer{e: api.ErrEnd}},
		{4, "44 00 0000", answer{e: api.ErrForm}}, {4, "40 00 0000 01020304", answer{e: api.ErrForm}}, {4, "44 00 00", answer{e: api.ErrEnd}}, {4, "46 00 00", answer{e: api.ErrEnd}}, {4, "54 00 0000", answer{e: api.ErrForm}},
		{4, "4f 00 0000 00010203040506070809 10111213141516171819 20212223242526272829 30313233343536373839", answer{n: 44}}, {4, "4f 00 0000 00010203040506070809 10111213141516171819 20212223242526272829 303132333435363738", answer{e: api.ErrEnd}},
		{5, "01 0203 04 00112233445566778899aabbccddeeff 0506", answer{n: 22}}, {6, "f5 ff ffff", answer{n: 4}},
	} {
		p := made(t)
		b := bytesOf(c.b)
		is(t, ofNumber(p.Take(c.slot, b)), c.want, "Take", c.slot, c.b)
		is(t, p.Has(c.slot), c.want.e == api.OK, "Has", c.slot, c.b)
		if c.want.e != api.OK {
			is(t, phv.Same(p, made(t)), true, "behind what was refused:", c.b)
			continue
		}
		is(t, ofBytes(p.Bytes(c.slot)), answer{bits: spread(b[:c.want.n])}, "Bytes", c.slot, c.b)
	}
	p := made(t)
	p.Take(2, bytesOf("6abc 0800 99"))
	is(t, p.Fields[2], []api.Vec{vecOf(3, 3), vecOf(1, 0), vecOf(12, 0xabc), vecOf(16, 0x800)}, "taken")
	p.Take(5, bytesOf("01 0203 04 00112233445566778899aabbccddeeff 0506"))
	is(t, p.Fields[5][3], api.Vec{W: 128, Hi: 0x0011223344556677, Lo: 0x8899aabbccddeeff}, "taken")
	p.Take(6, bytesOf("47 00 0000 0102030405060708 09"))
	is(t, p.Vars[6], bytesOf("0102030405060708"), "what varies")
	is(t, []bool{p.Has(1), p.Has(2), p.Has(3), p.Has(4), p.Has(5), p.Has(6)}, []bool{false, true, false, false, true, true}, "Has")
	is(t, p.Next, make([]int, 5), "Next behind a Take of a stack's slot")
}

func TestTakeOfNone(t *testing.T) {
	p := made(t)
	for _, slot := range odds(7) {
		for _, b := range [][]byte{nil, {}, ground.Bytes(3), ground.Bytes(400)} {
			is(t, ofNumber(p.Take(slot, b)), answer{e: api.ErrNone}, "Take", slot, len(b))
		}
	}
	for slot := range 7 {
		is(t, ofNumber(p.Take(slot, nil)), answer{e: api.ErrEnd}, "Take", slot, nil)
	}
	is(t, phv.Same(p, made(t)), true, "behind what was refused")
}

// What is taken again has nothing of what it had; what is refused leaves that.
func TestTakeAgain(t *testing.T) {
	p := made(t)
	first, second := bytesOf("47 01 0203 0102030405060708"), bytesOf("c6 ff eedd 0a0b0c0d")
	p.Take(4, first)
	for _, s := range []string{"46 00 0000 010203", "44 00 0000", "46 00 00"} {
		if n, e := p.Take(4, bytesOf(s)); n != 0 || e == api.OK {
			t.Errorf("Take(%s) = %d, %d", s, n, e)
		}
		is(t, ofBytes(p.Bytes(4)), answer{bits: spread(first)}, "Bytes behind what was refused", s)
	}
	is(t, ofNumber(p.Take(4, second)), answer{n: 8}, "Take")
	is(t, ofBytes(p.Bytes(4)), answer{bits: spread(second)}, "Bytes")
	is(t, ofNumber(p.Take(4, bytesOf("45 00 0000 99"))), answer{n: 4}, "Take")
	is(t, ofBytes(p.Bytes(4)), answer{bits: spread(bytesOf("45 00 0000"))}, "Bytes")
}

// The greatest header there may be, of the most bytes that vary, off far more bytes than a packet has.
func TestTakeOfTheMost(t *testing.T) {
	m := ground.LeastImage()
	fields := ground.Several(api.Field{W: 128}, 15, func(x *api.Field, s string) { x.Name = s })
	fields = append(fields, api.Field{Name: "low", W: 16})
	m.Headers = []api.Header{{Name: "h", Fields: fields, Var: 64, By: 15, Mul: 64, Sub: 4096}}
	m.Insts = []api.Inst{{Name: "x"}}
	b := ground.Bytes(100000)
	for n := range 300 {
		b[240], b[241] = byte(n>>8), byte(n)
		p := phv.New(m)
		want := answer{e: api.ErrForm}
		if n == 64 || n == 65 {
			want = answer{n: 242 + 64*(n-64)}
		}
		is(t, ofNumber(p.Take(0, b)), want, "Take", n)
		if want.e == api.OK {
			is(t, ofBytes(p.Bytes(0)), answer{bits: spread(b[:want.n])}, "Bytes", n)
			is(t, ofNumber(p.Take(0, b[:want.n])), want, "Take of no more", n)
			is(t, ofNumber(p.Take(0, b[:want.n-1])), answer{e: api.ErrEnd}, "Take of one less", n)
		}
	}
	b[240], b[241] = 255, 255
	is(t, ofNumber(phv.New(m).Take(0, b)), answer{e: api.ErrForm}, "Take of the greatest number")
}

// Of a header of which nothing varies nothing hangs on what its first field is.
func TestTakeOfWhatDoesNotVary(t *testing.T) {
	m := ground.LeastImage()
	m.Headers = []api.Header{{Name: "h", Fields: []api.Field{{Name: "a", W: 128}}}}
	m.Insts = []api.Inst{{Name: "x"}}
	b := slices.Repeat([]byte{255}, 20)
	p := phv.New(m)
	is(t, ofNumber(p.Take(0, b)), answer{n: 16}, "Take")
	is(t, p.Fields[0][0], wide(), "taken")
	is(t, len(p.Vars[0]), 0, "what varies")
}

// Promise 13.3: Another.

func TestAnother(t *testing.T) {
	p := made(t)
	for _, inst := range append(odds(5), 0, 2, 4) {
		is(t, ofNumber(p.Another(inst)), answer{e: api.ErrNone}, "Another", inst)
	}
	for i, want := range []answer{{n: 1}, {n: 2}, {n: 3}, {e: api.ErrFull}, {e: api.ErrFull}} {
		is(t, ofNumber(p.Another(1)), want, "Another", 1)
		is(t, p.Next, []int{0, min(i+1, 3), 0, 0, 0}, "Next")
	}
	is(t, ofNumber(p.Another(3)), answer{n: 5}, "Another")
	is(t, ofNumber(p.Another(3)), answer{e: api.ErrFull}, "Another")
	is(t, p.Next, []int{0, 3, 0, 1, 0}, "Next")
	is(t, p.Valid, make([]bool, 7), "what comes next isn't there by that")
	p.Show(1)
	p.Hide(1)
	is(t, ofNumber(p.Another(1)), answer{e: api.ErrFull}, "Another")
}

// Promises 13.3 and 13.5: Bytes.

func TestBytes(t *testing.T) {
	p := made(t)
	for _, slot := range odds(7) {
		is(t, ofBytes(p.Bytes(slot)), answer{e: api.ErrNone}, "Bytes", slot)
	}
	for slot, n := range []int{14, 4, 4, 4, 4, 22, 4} {
		is(t, ofBytes(p.Bytes(slot)), answer{e: api.ErrValid}, "Bytes", slot)
		p.Show(slot)
		is(t, ofBytes(p.Bytes(slot)), answer{bits: noughts(8 * n)}, "Bytes", slot)
	}
	p.Take(6, bytesOf("46 0a 1234 01020304"))
	p.Put(6, 3, vecOf(16, 0xabcd))
	p.Put(6, 0, vecOf(4, 15))
	p.Put(6, 1, vecOf(4, 0)) // what varies stays, whatever tells of it
	is(t, ofBytes(p.Bytes(6)), answer{bits: spread(bytesOf("f0 0a abcd 01020304"))}, "Bytes")
	p.Hide(6)
	is(t, ofBytes(p.Bytes(6)), answer{e: api.ErrValid}, "Bytes")
}

// Promise 13.5: what was taken off bytes has these bytes again.
func TestWhatWasTakenHasTheseBytes(t *testing.T) {
	taken := 0
	for _, m := range append(ground.Images(), stacked()) {
		for n := range 400 {
			b := ground.Bytes(n)
			p := phv.New(m)
			for slot := range p.Valid {
				k, e := p.Take(slot, b)
				if e != api.OK {
					continue
				}
				taken++
				is(t, ofBytes(p.Bytes(slot)), answer{bits: spread(b[:k])}, "Bytes", slot, n)
			}
		}
	}
	if taken < 10000 {
		t.Error("taken:", taken)
	}
}
