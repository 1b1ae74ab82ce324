package shape_test

import (
	"math"
	"slices"
	"strconv"
	"testing"

	"shunter/api"
	"shunter/shape"
)

// Promise 8.1: which headers may be.

func TestMay(t *testing.T) {
	for _, h := range rightHeaders() {
		is(t, shape.May(h), api.OK, "May", h)
	}
	for _, h := range wrongHeaders() {
		if shape.May(h) == api.OK {
			t.Errorf("May(%v): none; want an error", h)
		}
	}
}

func TestMayEdges(t *testing.T) {
	for _, c := range []struct {
		h    api.Header
		want api.Errno
	}{
		{header(4, 4, 8), api.OK}, {api.Header{}, api.ErrForm}, {api.Header{Name: "h"}, api.ErrNone}, {api.Header{Name: "h", Fields: []api.Field{}}, api.ErrNone}, {api.Header{Name: "h", Var: 1}, api.ErrNone},
		{header(slices.Repeat([]int{8}, 16)...), api.OK}, {header(slices.Repeat([]int{8}, 17)...), api.ErrLong}, {header(slices.Repeat([]int{0}, 17)...), api.ErrLong},
		{header(0), api.ErrWidth}, {header(1), api.ErrWidth}, {header(7), api.ErrWidth}, {header(8), api.OK}, {header(9), api.ErrWidth}, {header(128), api.OK}, {header(129), api.ErrWidth}, {header(136), api.ErrWidth}, {header(-8), api.ErrWidth}, {header(16, -8), api.ErrWidth}, {header(1, 7), api.OK}, {header(4, 4, 4), api.ErrWidth},
		{header(math.MinInt, 8, math.MinInt), api.ErrWidth}, {header(math.MaxInt, 1), api.ErrWidth},
		{varying(0, 0, 0, 0, 8), api.OK}, {varying(0, 1, 0, 0, 8, 8), api.ErrRange}, {varying(0, 0, 1, 0, 8), api.ErrRange}, {varying(0, 0, 0, 1, 8), api.ErrRange}, {varying(0, 0, 1, 1, 8), api.ErrRange},
		{varying(1, 0, 1, 0, 8), api.OK}, {varying(64, 0, 1, 0, 8), api.OK}, {varying(65, 0, 1, 0, 8), api.ErrRange}, {varying(-1, 0, 1, 0, 8), api.ErrRange}, {varying(-1, 0, 0, 0, 8), api.ErrRange},
		{varying(1, 1, 1, 0, 8, 8), api.OK}, {varying(1, 2, 1, 0, 8, 8), api.ErrRange}, {varying(1, -1, 1, 0, 8, 8), api.ErrRange},
		{varying(1, 0, 1, 0, 16), api.OK}, {varying(1, 0, 1, 0, 17, 7), api.ErrRange}, {varying(1, 0, 1, 0, 15, 1), api.OK}, {varying(1, 1, 1, 0, 15, 17), api.ErrRange}, {varying(1, 0, 1, 0, 15, 17), api.OK},
		{varying(1, 0, 0, 0, 8), api.ErrRange}, {varying(1, 0, 64, 0, 8), api.OK}, {varying(1, 0, 65, 0, 8), api.ErrRange}, {varying(1, 0, -1, 0, 8), api.ErrRange},
		{varying(1, 0, 1, 4096, 8), api.OK}, {varying(1, 0, 1, 4097, 8), api.ErrRange}, {varying(1, 0, 1, -1, 8), api.ErrRange},
		{varying(65, 0, 1, 0, 7), api.ErrWidth}, {varying(65, 0, 1, 0, 17), api.ErrWidth},
	} {
		is(t, shape.May(c.h), c.want, "May", c.h)
	}
}

func TestMayNames(t *testing.T) {
	for _, s := range wrongNames() {
		h := header(8, 8)
		h.Fields[1].Name = s
		is(t, shape.May(h), api.ErrForm, "May with the field", s)
		h.Fields[1].Name, h.Fields[0].Name = "b", s
		is(t, shape.May(h), api.ErrForm, "May with the field", s)
		h.Fields[0].Name, h.Name = "a", s
		is(t, shape.May(h), api.ErrForm, "May of the name", s)
	}
	names := rightNames()
	for from := 0; from < len(names); from += 8 { // all that are right go together
		h := header(8, 8, 8, 8, 8, 8, 8, 8)
		for i := range h.Fields {
			h.Fields[i].Name = names[(from+i)%len(names)]
		}
		is(t, shape.May(h), api.OK, "May", h)
	}
}

func TestMayNamesAlike(t *testing.T) {
	pair := func(p [2]string, a, b int) api.Header {
		h := header(8, 8, 8, 8)
		h.Fields[a].Name, h.Fields[b].Name = p[0], p[1]
		h.Name = p[0] // a header's name isn't one of its fields'
		for i := range h.Fields {
			if i != a && i != b {
				h.Fields[i].Name = "other" + strconv.Itoa(i)
			}
		}
		return h
	}
	for a := range 4 {
		for b := range 4 {
			if a == b {
				continue
			}
			for _, p := range alikes() {
				is(t, shape.May(pair(p, a, b)), api.ErrTwice, "May", p, a, b)
			}
			for _, p := range unlikes() {
				want := api.OK
				if p[1] == "-" { // no name
					want = api.ErrForm
				}
				is(t, shape.May(pair(p, a, b)), want, "May", p, a, b)
			}
		}
	}
}

// headerFlaws break a header of 5 fields of 8 bits that varies by the third one.
func headerFlaws() []flaw[api.Header] {
	var l []flaw[api.Header]
	add := func(part string, rank int, e api.Errno, in func(h *api.Header)) {
		l = append(l, flaw[api.Header]{part, rank, e, func(h api.Header) api.Header { in(&h); return h }})
	}
	for _, s := range wrongNames()[:8] {
		add("name", 0, api.ErrForm, func(h *api.Header) { h.Name = s })
	}
	add("count", 1, api.ErrLong, func(h *api.Header) { h.Fields = append(h.Fields, fields(slices.Repeat([]int{8}, 12)...)...) })
	add("count", 2, api.ErrNone, func(h *api.Header) { h.Fields = nil })
	for i := range 5 {
		at := strconv.Itoa(i)
		for _, s := range wrongNames()[:8] {
			add("name "+at, 10*i+10, api.ErrForm, func(h *api.Header) { h.Fields[i].Name = s })
		}
		for _, s := range []string{"a", "B", "c", "D"}[:i] {
			add("name "+at, 10*i+11, api.ErrTwice, func(h *api.Header) { h.Fields[i].Name = s })
		}
		for _, w := range []int{0, -1, -8, 129, 136, math.MaxInt, math.MinInt} {
			add("width "+at, 10*i+12, api.ErrWidth, func(h *api.Header) { h.Fields[i].W = w })
		}
		if i != 2 { // a greater width of the third one would be a flaw of By, too
			add("width "+at, 100, api.ErrWidth, func(h *api.Header) { h.Fields[i].W = 127 })
		}
	}
	add("width 2", 101, api.ErrRange, func(h *api.Header) { h.Fields[2].W = 24 })
	for _, n := range []int{0, -1, 65, math.MaxInt, math.MinInt} {
		add("var", 101, api.ErrRange, func(h *api.Header) { h.Var = n })
		add("mul", 101, api.ErrRange, func(h *api.Header) { h.Mul = n })
	}
	for _, n := range []int{-1, 5, 16, math.MaxInt, math.MinInt} {
		add("by", 101, api.ErrRange, func(h *api.Header) { h.By = n })
	}
	for _, n := range []int{-1, 4097, math.MaxInt, math.MinInt} {
		add("sub", 101, api.ErrRange, func(h *api.Header) { h.Sub = n })
	}
	return l
}

func TestMayTellsTheFirstFault(t *testing.T) {
	right := func() api.Header { return varying(64, 2, 64, 4096, 8, 8, 8, 8, 8) }
	isFirst(t, right, headerFlaws(), shape.May)
}

// Promise 8.1: how long headers are.

func TestLengths(t *testing.T) {
	for _, h := range rightHeaders() {
		n := total(h.Fields)
		is(t, shape.Bits(h), n, "Bits", h)
		is(t, shape.Bytes(h), n/8, "Bytes", h)
		is(t, shape.Most(h), n/8+h.Var, "Most", h)
	}
	for _, h := range wrongHeaders() {
		is(t, [3]int{shape.Bits(h), shape.Bytes(h), shape.Most(h)}, [3]int{}, "Bits, Bytes, Most", h)
	}
}

func TestLengthsEdges(t *testing.T) {
	for _, c := range []struct {
		h                 api.Header
		bits, bytes, most int
	}{
		{header(4, 4, 8), 16, 2, 2}, {header(8), 8, 1, 1}, {header(128), 128, 16, 16}, {header(slices.Repeat([]int{128}, 16)...), 2048, 256, 256}, {varying(64, 0, 1, 0, append([]int{16}, slices.Repeat([]int{128}, 15)...)...), 1936, 242, 306}, {varying(40, 1, 4, 20, 4, 4, 8), 16, 2, 42},
		{header(7), 0, 0, 0}, {header(12), 0, 0, 0}, {header(136), 0, 0, 0}, {varying(65, 0, 1, 0, 8), 0, 0, 0}, {varying(40, 1, 0, 20, 4, 4, 8), 0, 0, 0}, {api.Header{}, 0, 0, 0},
	} {
		is(t, [3]int{shape.Bits(c.h), shape.Bytes(c.h), shape.Most(c.h)}, [3]int{c.bits, c.bytes, c.most}, "Bits, Bytes, Most", c.h)
	}
}

// Promises 8.1 and 8.4: offsets begin with 0, and rise by the widths, up to all bits.
func TestOffset(t *testing.T) {
	for _, h := range slices.Concat(rightHeaders(), wrongHeaders()) {
		for _, f := range ints(len(h.Fields)) {
			want := told{}
			if f >= 0 && f < len(h.Fields) {
				want = told{total(h.Fields[:f]), true}
			}
			is(t, tell(shape.Offset(h, f)), want, "Offset", h, f)
		}
		at := 0
		for f, x := range h.Fields {
			is(t, tell(shape.Offset(h, f)), told{at, true}, "Offset", h, f)
			at += x.W
		}
		if shape.May(h) == api.OK {
			is(t, shape.Bits(h), at, "Bits", h)
		}
	}
}

func TestOffsetEdges(t *testing.T) {
	for _, c := range []struct {
		h    api.Header
		f    int
		want told
	}{
		{header(4, 4, 8), 0, told{0, true}}, {header(4, 4, 8), 1, told{4, true}}, {header(4, 4, 8), 2, told{8, true}}, {header(4, 4, 8), 3, told{}}, {header(4, 4, 8), -1, told{}}, {header(4, 4, 8), math.MinInt, told{}}, {header(4, 4, 8), math.MaxInt, told{}},
		{varying(40, 1, 4, 20, 4, 4, 8), 2, told{8, true}}, {varying(40, 1, 4, 20, 4, 4, 8), 3, told{}}, {api.Header{}, 0, told{}}, {header(3, 2, 1), 2, told{5, true}},
	} {
		is(t, tell(shape.Offset(c.h, c.f)), c.want, "Offset", c.h, c.f)
	}
}

func TestField(t *testing.T) {
	named := func(l ...string) api.Header {
		h := api.Header{Name: "h"}
		for _, s := range l {
			h.Fields = append(h.Fields, api.Field{Name: s, W: 8})
		}
		return h
	}
	for _, c := range []struct {
		h    api.Header
		s    string
		want int
	}{
		{named("a", "b", "c"), "a", 0}, {named("a", "b", "c"), "C", 2}, {named("a", "B", "c"), "b", 1}, {named("a", "b"), "d", -1}, {named("a", "b"), "", -1}, {named("a", "b"), "ab", -1}, {named("a", "b"), "h", -1}, {named(), "a", -1}, {api.Header{}, "", -1},
		{named("b", "a", "A", "a"), "a", 1}, {named("b", "A", "a"), "a", 1}, {named("", "a"), "", 0}, {named("a.b", "1"), "A.B", 0}, {named("a.b", "1"), "1", 1}, {named("\xff", "a"), "\ufffd", 0}, {named("a", "\xfe"), "\xff", 1},
	} {
		is(t, shape.Field(c.h, c.s), c.want, "Field", c.h, c.s)
	}
	for _, p := range alikes() {
		is(t, shape.Field(named("x", p[0], p[1]), p[1]), 1, "Field", p)
	}
	for _, p := range unlikes() {
		is(t, shape.Field(named("x", p[0], "y"), p[1]), -1, "Field", p)
	}
	for i, s := range rightNames() {
		is(t, shape.Field(named(rightNames()...), s), i, "Field", s)
	}
	is(t, shape.Field(header(slices.Repeat([]int{0}, 300)...), string(rune('a'+299))), 299, "Field of 300 that may not be")
}

// Promise 8.2.

func TestVary(t *testing.T) {
	var l []api.Header
	for _, most := range []int{1, 2, 7, 40, 63, 64} {
		for _, mul := range []int{1, 2, 3, 4, 7, 63, 64} {
			for _, sub := range []int{0, 1, 2, 20, 63, 64, 65, 1000, 4095, 4096} {
				l = append(l, varying(most, 0, mul, sub, 16), varying(most, 1, mul, sub, 4, 4))
			}
		}
	}
	numbers := slices.Concat(ints(4200), []int{65534, 65535, 65536, 65537, 1 << 57, 1 << 58, 1<<58 + 1, 1 << 60, 1<<62 + 1})
	for _, h := range slices.Concat(rightHeaders(), l) {
		for _, n := range numbers {
			want := tell(varied(h, n))
			if got := tell(shape.Vary(h, n)); got != want {
				t.Fatalf("Vary(%v, %d) = %v; want %v", h, n, got, want)
			}
		}
	}
	for _, h := range wrongHeaders() {
		for _, n := range ints(300) {
			is(t, tell(shape.Vary(h, n)), told{}, "Vary", h, n)
		}
	}
}

func TestVaryEdges(t *testing.T) {
	ip := varying(40, 1, 4, 20, 4, 4, 8)
	one := varying(64, 0, 1, 0, 16)
	most := varying(64, 0, 1, 4096, 16)
	none := header(8, 8)
	for _, c := range []struct {
		h    api.Header
		n    int
		want told
	}{
		{ip, 4, told{}}, {ip, 5, told{0, true}}, {ip, 6, told{4, true}}, {ip, 15, told{40, true}}, {ip, 16, told{}}, {ip, 0, told{}}, {ip, -1, told{}}, {ip, 65535, told{}}, {ip, math.MaxInt, told{}}, {ip, math.MinInt, told{}}, {ip, 1<<62 + 5, told{}},
		{one, 0, told{0, true}}, {one, 1, told{1, true}}, {one, 64, told{64, true}}, {one, 65, told{}}, {one, -1, told{}},
		{most, 4095, told{}}, {most, 4096, told{0, true}}, {most, 4160, told{64, true}}, {most, 4161, told{}},
		{none, 0, told{0, true}}, {none, 1, told{0, true}}, {none, 65535, told{0, true}}, {none, 65536, told{0, true}}, {none, -1, told{0, true}}, {none, math.MaxInt, told{0, true}}, {none, math.MinInt, told{0, true}},
		{header(7), 0, told{}}, {varying(0, 0, 1, 0, 8), 0, told{}}, {varying(65, 0, 1, 0, 8), 1, told{}}, {api.Header{}, 0, told{}},
	} {
		is(t, tell(shape.Vary(c.h, c.n)), c.want, "Vary", c.h, c.n)
	}
}

// What is handed in stays as it is.
func TestHeadersStay(t *testing.T) {
	for _, h := range slices.Concat(rightHeaders(), wrongHeaders()) {
		h.Fields = append(h.Fields, api.Field{Name: "behind", W: 1})[:len(h.Fields)]
		kept := headerCopy(h)
		shape.May(h)
		shape.Bits(h)
		shape.Bytes(h)
		shape.Most(h)
		shape.Offset(h, 1)
		shape.Vary(h, 5)
		shape.Field(h, "b")
		is(t, headerCopy(h), kept, "the calls changed")
		is(t, h.Fields[:len(h.Fields)+1][len(h.Fields)], api.Field{Name: "behind", W: 1}, "the calls wrote behind", h)
	}
}
