package tern_test

import (
	"math"
	"strings"
	"testing"

	"shunter/api"
	"shunter/tern"
)

func TestExample(t *testing.T) {
	x := tern.New(8, 2)
	second := tern.Item{Value: api.Vec{W: 8}, Mask: api.Vec{W: 8}, Prio: 2, N: 20}
	first := tern.Item{Value: api.Vec{W: 8, Lo: 0x10}, Mask: api.Vec{W: 8, Lo: 0xf0}, Prio: 1, N: 10}
	is(t, []api.Errno{x.Put(second), x.Put(first)}, []api.Errno{api.OK, api.OK}, "Put")
	is(t, got(x, api.Vec{W: 8, Lo: 0x1f}), []any{10, 1, true}, "Get 8'1f")
	is(t, got(x, api.Vec{W: 8, Lo: 0x2f}), []any{20, 2, true}, "Get 8'2f")
	is(t, x.Len(), 2, "Len")
	is(t, x.List(), []tern.Item{first, second}, "List")
	is(t, []bool{tern.Shadowed(first, second), tern.Shadowed(second, first)}, []bool{false, true}, "Shadowed")
}

// Promise 21.1: New.
func TestNew(t *testing.T) {
	least := []int{math.MinInt, math.MinInt + 1, math.MinInt32, -256, -128, -2, -1, 0}
	for _, w := range append(least, 129, 130, 256, 65536, math.MaxInt32, math.MaxInt) {
		for _, most := range []int{-1, 0, 1, 2, 256, 257} {
			is(t, tern.New(w, most) == nil, true, "New", w, most, "is nil")
		}
	}
	for _, most := range append(least, 257, 258, 512, 65536, math.MaxInt32, math.MaxInt32+1, math.MaxInt) {
		for _, w := range []int{1, 2, 64, 65, 127, 128} {
			is(t, tern.New(w, most) == nil, true, "New", w, most, "is nil")
		}
	}
	for w := 1; w <= 128; w++ {
		for _, most := range []int{1, 2, 3, 128, 255, 256} {
			is(t, tern.New(w, most) != nil, true, "New", w, most)
			holds(t, tern.New(w, most), newModel(w, most), append(wrongRows(w), near(strings.Repeat("1", w))...), "New", w, most)
		}
	}
}

// Promise 21.1: a list takes as many rules as it may have, and not one more.
func TestFull(t *testing.T) {
	for most := 1; most <= 256; most++ {
		w, seed := 9+most%120, uint64(most)
		l := some(&seed, w, most+2)
		x, want := of(t, w, most, l[:most]...)
		for _, r := range l[most:] {
			y := item(r.s, r.prio, 1)
			is(t, calls(x, y), [3]api.Errno{api.ErrFull, api.ErrNone, api.ErrNone}, "of a full list", most, y)
		}
		rows := keys(texts(append([]rule{l[0]}, l[most-1:]...)))
		holds(t, x, want, rows, most)
		y, other := item(l[0].s, l[0].prio, 1), item(l[most].s, l[most].prio, -5)
		is(t, x.Put(y), api.ErrTwice, "Put what is there into a full list", most)
		drop(t, x, want, y)
		put(t, x, want, other)
		is(t, x.Put(y), api.ErrFull, "Put what was dropped", most)
		holds(t, x, want, rows, "behind", most)
	}
}

// Promises 21.1 and 21.2: of a nil list.
func TestNil(t *testing.T) {
	var x *tern.List
	for _, v := range append(wrongRows(8), near("10.1...0")...) {
		for _, prio := range append(wrongPrios(), 0, 1, 65535) {
			is(t, calls(x, tern.Item{Value: v, Mask: v, Prio: prio, N: 3}), each(api.ErrArg), v, prio)
			is(t, calls(x, tern.Item{Value: v, Mask: api.Vec{W: 8}, Prio: prio, N: 3}), each(api.ErrArg), v, prio)
		}
		is(t, got(x, v), []any{0, 0, false}, "Get", v)
	}
	is(t, []int{x.Len(), len(x.List())}, []int{0, 0}, "Len, List")
	is(t, x.Copy() == nil, true, "Copy is nil")
}

// Promise 21.1: rows of another width, and such as may not be, are refused ahead of all but a nil list, and nothing is changed. None of them is got.
func TestWrongRows(t *testing.T) {
	for w := 1; w <= 128; w++ {
		ones, none := strings.Repeat("1", w), strings.Repeat(".", w)
		// The first one is met by each row of the width.
		x, want := of(t, w, 2, rule{s: none}, rule{s: ones, prio: 1})
		for _, v := range wrongRows(w) {
			for _, prio := range []int{-1, 0, 1, 65535, 65536} {
				for _, right := range []api.Vec{row(none, '0'), row(ones, '0')} {
					is(t, calls(x, tern.Item{Value: v, Mask: right, Prio: prio}), each(api.ErrWidth), w, "Value", v, right, prio)
					is(t, calls(x, tern.Item{Value: right, Mask: v, Prio: prio}), each(api.ErrWidth), w, "Mask", v, right, prio)
				}
				is(t, calls(x, tern.Item{Value: v, Mask: v, Prio: prio}), each(api.ErrWidth), w, "both", v, prio)
			}
			is(t, got(x, v), []any{0, 0, false}, w, "Get", v)
		}
		holds(t, x, want, keys([]string{none, ones}), w)
	}
}

// Promise 21.1: a value with a bit outside its mask is refused, whichever bit it is, ahead of its rank, of what is there, and of a list that is full.
func TestWrongMasks(t *testing.T) {
	for w := 1; w <= 128; w++ {
		ones, none := strings.Repeat("1", w), strings.Repeat(".", w)
		x, want := of(t, w, 2, rule{s: none}, rule{s: ones})
		for i := range w {
			one := row(none[:i]+"1"+none[i+1:], '0')
			but := mask(ones[:i] + "." + ones[i+1:])
			for _, prio := range []int{-1, 0, 65535, 65536} {
				is(t, calls(x, tern.Item{Value: one, Mask: row(none, '0'), Prio: prio}), each(api.ErrMask), w, "a bit of no mask", i, prio)
				is(t, calls(x, tern.Item{Value: one, Mask: but, Prio: prio}), each(api.ErrMask), w, "the bit that a mask doesn't have", i, prio)
				is(t, calls(x, tern.Item{Value: row(ones, '0'), Mask: but, Prio: prio}), each(api.ErrMask), w, "all bits, and one that a mask doesn't have", i, prio)
			}
			is(t, calls(x, tern.Item{Value: one, Mask: one, Prio: 1}), [3]api.Errno{api.ErrFull, api.ErrNone, api.ErrNone}, w, "a bit of its mask", i)
		}
		holds(t, x, want, keys([]string{none, ones}), w)
	}
}

// Promise 21.1: ranks are from 0 to 65,535; others are refused ahead of what is there, and of a list that is full.
func TestRanks(t *testing.T) {
	for _, s := range []string{".", "1", "0.1.", strings.Repeat("1.", 64)} {
		full, same := of(t, len(s), 1, rule{s: s})
		for _, prio := range wrongPrios() {
			is(t, calls(full, item(s, prio, 1)), each(api.ErrRange), s, prio)
			is(t, calls(tern.New(len(s), 1), item(s, prio, 1)), each(api.ErrRange), s, prio)
		}
		holds(t, full, same, keys([]string{s}), s)
		for _, prio := range []int{0, 1, 2, 127, 128, 255, 256, 32767, 32768, 65534, 65535} {
			x, want := of(t, len(s), 1)
			put(t, x, want, item(s, prio, 4))
			is(t, got(x, row(s, '1')), []any{4, prio, true}, "Get", s, prio)
			holds(t, x, want, keys([]string{s}), s, prio)
			set(t, x, want, item(s, prio, 5))
			holds(t, x, want, keys([]string{s}), s, prio)
			drop(t, x, want, item(s, prio, 6))
			holds(t, x, want, keys([]string{s}), s, prio)
		}
	}
}

// Promise 21.1: of two faults the first one.
func TestOrderOfFaults(t *testing.T) {
	x, want := of(t, 8, 2, rule{"1010....", 1, 0}, rule{"........", 65535, 0})
	vec := func(n uint64) api.Vec { return api.Vec{W: 8, Lo: n} }
	for _, c := range []struct {
		what string
		y    tern.Item
		e    [3]api.Errno
	}{
		{"a value of another width, a bit outside the mask", tern.Item{Value: api.Vec{W: 7, Lo: 1}, Mask: vec(0)}, each(api.ErrWidth)},
		{"a mask of another width, a bit outside it", tern.Item{Value: vec(1), Mask: api.Vec{W: 9}}, each(api.ErrWidth)},
		{"both of one other width", tern.Item{Value: api.Vec{W: 9, Lo: 1}, Mask: api.Vec{W: 9, Lo: 1}}, each(api.ErrWidth)},
		{"a value that may not be, no rank", tern.Item{Value: vec(256), Mask: vec(255), Prio: -1}, each(api.ErrWidth)},
		{"a mask that may not be, no rank", tern.Item{Value: vec(0), Mask: vec(256), Prio: 65536}, each(api.ErrWidth)},
		{"a bit outside the mask, no rank", tern.Item{Value: vec(3), Mask: vec(1), Prio: -1}, each(api.ErrMask)},
		{"a bit outside the mask of what is there", tern.Item{Value: vec(0xa8), Mask: vec(0xf0), Prio: 1}, each(api.ErrMask)},
		{"no rank, of what is there", item("1010....", -1, 1), each(api.ErrRange)},
		{"no rank, not there, no room", item("1011....", 65536, 1), each(api.ErrRange)},
		{"another rank, no room", item("1010....", 2, 1), [3]api.Errno{api.ErrFull, api.ErrNone, api.ErrNone}},
		{"another value, no room", item("1011....", 1, 1), [3]api.Errno{api.ErrFull, api.ErrNone, api.ErrNone}},
		{"another mask, no room", item("1010...0", 1, 1), [3]api.Errno{api.ErrFull, api.ErrNone, api.ErrNone}},
	} {
		is(t, calls(x, c.y), c.e, c.what)
		holds(t, x, want, keys([]string{"1010....", "1011...."}), c.what)
	}
	is(t, x.Put(item("1010....", 1, 9)), api.ErrTwice, "there, and no room")
	is(t, x.Put(item("........", 65535, 9)), api.ErrTwice, "there, and no room")
	holds(t, x, want, keys([]string{"1010....", "1011...."}))
}

// Promise 21.1: what Put, Set and Drop do, and what they refuse: of one rule, of each width.
func TestOneRule(t *testing.T) {
	for w := 1; w <= 128; w++ {
		seed := uint64(w)
		l := append(some(&seed, w, min(w, 6)), rule{s: strings.Repeat(".", w), prio: 7}, rule{s: strings.Repeat("1", w), prio: 7}, rule{s: strings.Repeat("0", w), prio: 65535})
		for i, r := range l {
			rows := append(near(r.s), near(l[(i+1)%len(l)].s)...)
			n := numbers()[(w+i)%len(numbers())]
			y := item(r.s, r.prio, n)
			x, want := of(t, w, 2)
			is(t, calls(x, y), each(api.OK), "Put, Set, Drop", y)
			is(t, []api.Errno{x.Set(y), x.Drop(y)}, []api.Errno{api.ErrNone, api.ErrNone}, "Set and Drop what isn't there", y)
			holds(t, x, want, rows, y)
			put(t, x, want, y)
			holds(t, x, want, rows, "Put", y)
			is(t, x.Put(y), api.ErrTwice, "Put twice", y)
			is(t, x.Put(item(r.s, r.prio, n+1)), api.ErrTwice, "Put twice, with another number", y)
			holds(t, x, want, rows, "Put twice", y)
			set(t, x, want, item(r.s, r.prio, n-1))
			holds(t, x, want, rows, "Set", y)
			drop(t, x, want, item(r.s, r.prio, n+5))
			holds(t, x, want, rows, "Drop", y)
		}
	}
}

// Promise 21.1: any number may be had.
func TestNumbers(t *testing.T) {
	for _, n := range numbers() {
		x, want := of(t, 8, 4)
		put(t, x, want, item("1.......", 3, n))
		is(t, got(x, row("11111111", '0')), []any{n, 3, true}, "Get", n)
		holds(t, x, want, near("1......."), n)
		set(t, x, want, item("1.......", 3, ^n))
		is(t, got(x, row("11111111", '0')), []any{^n, 3, true}, "Get", n)
	}
}

// Promise 21.1: rules that differ in one bit of the value, in one of the mask, or in the rank, are two.
func TestRulesNearToOneAnother(t *testing.T) {
	for _, w := range []int{1, 2, 8, 63, 64, 65, 127, 128} {
		for i := range w {
			base := strings.Repeat("1.0", w)[:w]
			l := []rule{}
			for _, c := range []string{"0", "1", "."} {
				for _, prio := range []int{0, 1, 65535} {
					l = append(l, rule{s: base[:i] + c + base[i+1:], prio: prio})
				}
			}
			x, want := of(t, w, len(l), l...)
			is(t, x.Len(), 9, "Len", w, i)
			rows := keys(texts(l))
			holds(t, x, want, rows, w, i)
			for j, r := range l {
				set(t, x, want, item(r.s, r.prio, 100+j))
				holds(t, x, want, rows, w, i, "Set", r)
			}
			for _, r := range l {
				drop(t, x, want, item(r.s, r.prio, 0))
				holds(t, x, want, rows, w, i, "Drop", r)
			}
		}
	}
}

// Promise 21.2: the least rank comes first, whenever it is put; of one rank what was put first, and a Set doesn't move it.
func TestFirst(t *testing.T) {
	key := row("1111", '0')
	x, want := of(t, 4, 8, rule{"1...", 5, 0}, rule{".1..", 5, 0}, rule{"..1.", 5, 0})
	is(t, got(x, key), []any{1, 5, true}, "the one that was put first")
	set(t, x, want, item("1...", 5, 40))
	is(t, got(x, key), []any{40, 5, true}, "behind a Set of the first one")
	set(t, x, want, item(".1..", 5, 41))
	is(t, got(x, key), []any{40, 5, true}, "behind a Set of the second one")
	put(t, x, want, item("...1", 6, 42))
	is(t, got(x, key), []any{40, 5, true}, "behind a greater rank")
	put(t, x, want, item("...1", 4, 43))
	is(t, got(x, key), []any{43, 4, true}, "behind a lower rank")
	put(t, x, want, item("1111", 4, 44))
	is(t, got(x, key), []any{43, 4, true}, "behind one of that rank that asks for more bits")
	drop(t, x, want, item("...1", 4, 0))
	is(t, got(x, key), []any{44, 4, true}, "behind a Drop of the first one")
	drop(t, x, want, item("1111", 4, 0))
	drop(t, x, want, item("1...", 5, 0))
	is(t, got(x, key), []any{41, 5, true}, "behind a Drop of the lower rank, and of the first one")
	put(t, x, want, item("1...", 5, 45))
	is(t, got(x, key), []any{41, 5, true}, "what is put again comes behind")
	is(t, x.List(), []tern.Item{item(".1..", 5, 41), item("..1.", 5, 3), item("1...", 5, 45), item("...1", 6, 42)}, "List")
	holds(t, x, want, keys([]string{"1...", ".1..", "..1.", "...1"}))
	is(t, got(x, row("0000", '0')), []any{0, 0, false}, "what meets none")
}

// Promise 21.2: each bit of a mask counts, and no other one, of each width.
func TestEachBit(t *testing.T) {
	for w := 1; w <= 128; w++ {
		none := strings.Repeat(".", w)
		for i := range w {
			for _, c := range []string{"0", "1"} {
				x, want := of(t, w, 1, rule{s: none[:i] + c + none[i+1:], prio: 9})
				holds(t, x, want, keys([]string{want.rules[0].s}), w, i)
				is(t, got(x, row(none[:i]+c+none[i+1:], '1')), []any{1, 9, true}, "Get", w, i)
			}
		}
	}
}
