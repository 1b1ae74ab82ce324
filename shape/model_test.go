package shape_test

import (
	"math"
	"math/big"
	"reflect"
	"slices"
	"strings"
	"testing"

	"shunter/api"
	"shunter/ground"
)

// The model counts with numbers of any size; what is wrong it doesn't find, but breaks itself, so that it knows what must be told first.

// flaw breaks what is right, so that an error is told behind all those of a lower rank.
type flaw[T any] struct {
	part string // two flaws of one part can't be put together
	rank int
	e    api.Errno
	in   func(x T) T
}

// isFirst breaks what is right by each flaw, and by each two of them, and asks that the first one is told.
func isFirst[T any](t *testing.T, right func() T, flaws []flaw[T], ask func(x T) api.Errno) {
	t.Helper()
	if e := ask(right()); e != api.OK {
		t.Fatalf("%v: %d; want none", right(), e)
	}
	for _, first := range flaws {
		if x := first.in(right()); ask(x) != first.e {
			t.Errorf("%v: %d; want %d (%s)", x, ask(x), first.e, first.part)
		}
		for _, second := range flaws {
			if first.rank >= second.rank || first.part == second.part {
				continue
			}
			if x := first.in(second.in(right())); ask(x) != first.e {
				t.Errorf("%v: %d; want %d (%s ahead of %s)", x, ask(x), first.e, first.part, second.part)
			}
		}
	}
}

func fields(widths ...int) []api.Field {
	var l []api.Field
	for i, w := range widths {
		l = append(l, api.Field{Name: string(rune('a' + i)), W: w})
	}
	return l
}

func header(widths ...int) api.Header {
	return api.Header{Name: "h", Fields: fields(widths...)}
}

func varying(most, by, mul, sub int, widths ...int) api.Header {
	return api.Header{Name: "h", Fields: fields(widths...), Var: most, By: by, Mul: mul, Sub: sub}
}

func headerCopy(h api.Header) api.Header {
	h.Fields = append([]api.Field(nil), h.Fields...)
	return h
}

func headersCopy(l []api.Header) []api.Header {
	var other []api.Header
	for _, h := range l {
		other = append(other, headerCopy(h))
	}
	return other
}

// wrongNames are no names, or have a full stop.
func wrongNames() []string {
	return []string{"", "1", "1a", "-a", ".", ".a", "a.", "a.b", "ip.ttl", "a b", "a ", " a", "a\n", "a\x00", "a,", "×", "a÷", "\xff", "a\xff", "\ufffd", "日本", "é.é", strings.Repeat("a", 25), strings.Repeat("é", 25), strings.Repeat("a", 23) + ".b", strings.Repeat("a", 70000), strings.Repeat(".", 70000)}
}

// rightNames are names without a full stop, none of which is alike to another one.
func rightNames() []string {
	return []string{"a", "Z", "_", "a-", "a-1", "x0", "_9", "straße", "STRASSE", "été", "Ω", "Ж", "ӿ", "ɏ", strings.Repeat("b", 24), strings.Repeat("é", 24), "Ё" + strings.Repeat("9", 23)}
}

// alikes are texts of one key.
func alikes() [][2]string {
	return [][2]string{{"a", "a"}, {"a", "A"}, {"Ttl", "tTL"}, {"ÉTÉ", "été"}, {"ΛΟΓΟΣ", "λογος"}, {"ς", "σ"}, {"ς", "Σ"}, {"Ёлка", "ёЛКА"}, {"Þ", "þ"}, {"a-1", "A-1"}}
}

// unlikes are texts that are near to one another, of two keys.
func unlikes() [][2]string {
	return [][2]string{{"a", "b"}, {"a", "aa"}, {"é", "e"}, {"ß", "ss"}, {"Ā", "ā"}, {"e", "е"}, {"a-1", "a1"}, {"_", "-"}}
}

// rightHeaders may be, and are at the edges.
func rightHeaders() []api.Header {
	l := []api.Header{
		header(8), header(4, 4, 8), header(128), header(1, 7), header(1, 2, 3, 4, 5, 6, 7, 8, 9, 10, 9), header(127, 128, 1), header(3, 5), header(48, 48, 16),
		header(slices.Repeat([]int{1}, 16)...), header(slices.Repeat([]int{128}, 16)...), header(slices.Repeat([]int{8}, 15)...),
		varying(1, 0, 1, 0, 8), varying(64, 0, 64, 4096, 16), varying(40, 1, 4, 20, 4, 4, 8, 16), varying(64, 2, 1, 0, 128, 128, 16), varying(63, 15, 64, 4095, slices.Repeat([]int{16}, 16)...), varying(1, 0, 1, 0, 1, 128, 7), varying(7, 1, 3, 5, 120, 8), varying(64, 0, 8, 8, 8, 8),
	}
	for _, s := range rightNames() {
		h := header(8, 8)
		h.Name, h.Fields[0].Name, h.Fields[1].Name = s, s, "other"
		l = append(l, h)
	}
	return l
}

// wrongHeaders may not be, each for another reason, though some have fields.
func wrongHeaders() []api.Header {
	l := []api.Header{
		{}, {Name: "h"}, {Name: "h", Fields: []api.Field{}}, {Fields: fields(8)}, {Name: "a.b", Fields: fields(8)},
		header(7), header(1), header(8, 1), header(127), header(4, 4, 8, 4), header(slices.Repeat([]int{8}, 17)...), header(slices.Repeat([]int{8}, 300)...),
		header(0), header(0, 8), header(8, 0), header(-8), header(16, -8), header(129), header(136), header(8, 136), header(math.MaxInt), header(math.MinInt), header(math.MaxInt, 1), header(math.MinInt, math.MinInt), header(math.MinInt, 8, math.MinInt),
		varying(0, 1, 0, 0, 8, 8), varying(0, 0, 1, 0, 8, 8), varying(0, 0, 0, 1, 8, 8), varying(0, -1, 0, 0, 8, 8), varying(0, 0, -1, 0, 8, 8), varying(0, 0, 0, -1, 8, 8),
		varying(-1, 0, 1, 0, 8), varying(65, 0, 1, 0, 8), varying(math.MaxInt, 0, 1, 0, 8), varying(math.MinInt, 0, 1, 0, 8),
		varying(1, -1, 1, 0, 8), varying(1, 1, 1, 0, 8), varying(1, math.MaxInt, 1, 0, 8), varying(1, math.MinInt, 1, 0, 8), varying(1, 0, 1, 0, 17, 7), varying(1, 1, 1, 0, 8, 128),
		varying(1, 0, 0, 0, 8), varying(1, 0, -1, 0, 8), varying(1, 0, 65, 0, 8), varying(1, 0, math.MaxInt, 0, 8), varying(1, 0, math.MinInt, 0, 8),
		varying(1, 0, 1, -1, 8), varying(1, 0, 1, 4097, 8), varying(1, 0, 1, math.MaxInt, 8), varying(1, 0, 1, math.MinInt, 8),
	}
	twice := header(8, 8, 8)
	twice.Fields[2].Name = "B"
	dotted := header(8, 8)
	dotted.Fields[1].Name = "b.c"
	return append(l, twice, dotted)
}

// total is the sum of so many widths, as an int that goes round.
func total(l []api.Field) int {
	n := new(big.Int)
	for _, f := range l {
		n.Add(n, big.NewInt(int64(f.W)))
	}
	return int(new(big.Int).Mod(n, new(big.Int).Lsh(big.NewInt(1), 64)).Uint64())
}

// varied is how many bytes vary of a header that may be.
func varied(h api.Header, n int) (int, bool) {
	if h.Var == 0 {
		return 0, true
	}
	x := new(big.Int).Mul(big.NewInt(int64(h.Mul)), big.NewInt(int64(n)))
	x.Sub(x, big.NewInt(int64(h.Sub)))
	if n < 0 || n > 65535 || x.Sign() < 0 || x.Cmp(big.NewInt(int64(h.Var))) > 0 {
		return 0, false
	}
	return int(x.Int64()), true
}

// inSlot is which slot of which instance a slot is.
type inSlot struct{ inst, of int }

// allSlots are the slots one by one.
func allSlots(l []api.Inst) []inSlot {
	counts := map[int]int{0: 1, 1: 1, 2: 2, 3: 3, 4: 4}
	var slots []inSlot
	for i, x := range l {
		for k := range counts[x.Depth] {
			slots = append(slots, inSlot{i, k})
		}
	}
	return slots
}

func depths(l ...int) []api.Inst {
	var insts []api.Inst
	for i, d := range l {
		insts = append(insts, api.Inst{Name: "i" + strings.Repeat("x", i%23), Header: i % 3, Depth: d})
	}
	return insts
}

// instLists are instances of all depths, those that may not be among them.
func instLists() [][]api.Inst {
	l := [][]api.Inst{
		nil, {}, depths(0), depths(1), depths(2), depths(4), depths(-1), depths(5), depths(math.MaxInt), depths(math.MinInt),
		depths(0, 0), depths(0, 3), depths(3, 0), depths(4, 3, 2, 1, 0), depths(0, 1, 2, 3, 4), depths(5, 0), depths(0, 5, 0), depths(5, -1, 5), depths(-1, 2, 5, 0, -2, 4, 6), depths(0, 0, 5),
		depths(slices.Repeat([]int{0}, 16)...), depths(slices.Repeat([]int{4}, 8)...), depths(slices.Repeat([]int{4}, 16)...), depths(slices.Repeat([]int{4}, 17)...), depths(slices.Repeat([]int{2, 5}, 300)...),
	}
	x := uint64(8)
	for range 300 {
		var some []int
		for range ground.Number(&x) % 18 {
			some = append(some, int(ground.Number(&x)%9)-2)
		}
		l = append(l, depths(some...))
	}
	return l
}

// ints are from below 0 to above a count, and the outermost ones.
func ints(count int) []int {
	l := []int{math.MinInt, math.MinInt + 1, math.MinInt32, -65536, math.MaxInt32, math.MaxInt32 + 1, math.MaxInt - 1, math.MaxInt}
	for n := -3; n <= count+3; n++ {
		l = append(l, n)
	}
	return l
}

func is[T any](t *testing.T, got, want T, call string, args ...any) {
	t.Helper()
	if !reflect.DeepEqual(got, want) {
		t.Fatalf("%s%v = %v; want %v", call, args, got, want)
	}
}

// told is a number, and whether there is one.
type told struct {
	n  int
	ok bool
}

func tell(n int, ok bool) told { return told{n, ok} }
