package bits_test

import (
	"math"
	"slices"
	"testing"

	"shunter/api"
	"shunter/bits"
	"shunter/ground"
)

// Promise 3.1.

func TestGet(t *testing.T) {
	for _, b := range grounds() {
		s := spread(b)
		for w := 1; w <= 128; w++ {
			for at := 0; at+w <= len(s); at++ {
				v, e := bits.Get(b, at, w)
				isRow(t, v, e, s[at:at+w], "Get", b, at, w)
			}
		}
		if spread(b) != s {
			t.Fatalf("Get changed %s to %x", s, b)
		}
	}
}

func TestGetEdges(t *testing.T) {
	b := []byte{0x12, 0x34}
	for _, c := range []struct {
		at, w int
		lo    uint64
	}{
		{4, 8, 0x23}, {0, 1, 0}, {3, 1, 1}, {15, 1, 0}, {13, 1, 1}, {0, 7, 0x09}, {0, 8, 0x12}, {0, 9, 0x24}, {8, 8, 0x34}, {0, 16, 0x1234}, {7, 9, 0x34}, {1, 15, 0x1234}, {14, 2, 0},
	} {
		if v, e := bits.Get(b, c.at, c.w); v != (api.Vec{W: c.w, Lo: c.lo}) || e != api.OK {
			t.Errorf("Get(%x, %d, %d) = %v, %d; want %x", b, c.at, c.w, v, e, c.lo)
		}
	}
	long := []byte{0xfe, 0xdc, 0xba, 0x98, 0x76, 0x54, 0x32, 0x10, 0x01, 0x23, 0x45, 0x67, 0x89, 0xab, 0xcd, 0xef, 0x5a}
	for _, c := range []struct {
		at   int
		want api.Vec
	}{
		{0, api.Vec{W: 64, Lo: 0xfedcba9876543210}},
		{0, api.Vec{W: 65, Hi: 1, Lo: 0xfdb97530eca86420}},
		{0, api.Vec{W: 128, Hi: 0xfedcba9876543210, Lo: 0x0123456789abcdef}},
		{4, api.Vec{W: 128, Hi: 0xedcba98765432100, Lo: 0x123456789abcdef5}},
		{8, api.Vec{W: 128, Hi: 0xdcba987654321001, Lo: 0x23456789abcdef5a}},
	} {
		if v, e := bits.Get(long, c.at, c.want.W); v != c.want || e != api.OK {
			t.Errorf("Get at %d, %d wide = %v, %d; want %v", c.at, c.want.W, v, e, c.want)
		}
	}
}

func TestGetOutOfRange(t *testing.T) {
	for _, b := range grounds() {
		for w := 1; w <= 128; w++ {
			for _, at := range wrongPlaces(8*len(b), w) {
				v, e := bits.Get(b, at, w)
				noRow(t, v, e, api.ErrRange, "Get", b, at, w)
			}
		}
	}
}

// A wrong width is told before a wrong place.
func TestGetOfWrongWidths(t *testing.T) {
	for _, b := range grounds() {
		for _, w := range wrongWidths() {
			for _, at := range append(wrongPlaces(8*len(b), 1), 0, 1, 8) {
				v, e := bits.Get(b, at, w)
				noRow(t, v, e, api.ErrWidth, "Get", b, at, w)
			}
		}
	}
}

// Promises 3.1 and 3.4: what was put is got, and all other bits are as they were.
func TestPut(t *testing.T) {
	for _, b := range grounds() {
		s := spread(b)
		for _, w := range widths() {
			for _, v := range sample(w) {
				for at := 0; at+w <= len(s); at++ {
					got, e := bits.Put(b, at, v)
					isBytes(t, got, e, packed(s[:at]+digits(v)+s[at+w:]), "Put", b, at, v)
					back, e := bits.Get(got, at, w)
					isRow(t, back, e, digits(v), "Get", got, at, w)
				}
			}
		}
		if spread(b) != s {
			t.Fatalf("Put changed %s to %x", s, b)
		}
	}
}

func TestPutEdges(t *testing.T) {
	for _, c := range []struct {
		b    []byte
		at   int
		v    api.Vec
		want []byte
	}{
		{[]byte{0xff, 0xff}, 4, api.Vec{W: 8}, []byte{0xf0, 0x0f}},
		{[]byte{0x00}, 0, api.Vec{W: 1, Lo: 1}, []byte{0x80}},
		{[]byte{0x00}, 7, api.Vec{W: 1, Lo: 1}, []byte{0x01}},
		{[]byte{0xff}, 3, api.Vec{W: 1}, []byte{0xef}},
		{[]byte{0x12}, 0, api.Vec{W: 8, Lo: 0xab}, []byte{0xab}},
		{[]byte{0xff}, 1, api.Vec{W: 7}, []byte{0x80}},
		{[]byte{0xff, 0xff}, 7, api.Vec{W: 9}, []byte{0xfe, 0x00}},
		{[]byte{0, 0, 0}, 6, api.Vec{W: 12, Lo: 0xfff}, []byte{0x03, 0xff, 0xc0}},
	} {
		b, e := bits.Put(c.b, c.at, c.v)
		isBytes(t, b, e, c.want, "Put", c.b, c.at, c.v)
	}
}

func TestPutOutOfRange(t *testing.T) {
	for _, b := range grounds() {
		for _, w := range widths() {
			for _, v := range sample(w) {
				for _, at := range wrongPlaces(8*len(b), w) {
					got, e := bits.Put(b, at, v)
					noBytes(t, got, e, api.ErrRange, "Put", b, at, v)
				}
			}
		}
	}
}

// A row that may not be is told before a wrong place, a wrong width of it as ErrArg, too.
func TestPutOfWrongRows(t *testing.T) {
	for _, b := range grounds() {
		for _, v := range wrongRows() {
			for _, at := range append(wrongPlaces(8*len(b), 1), 0, 1, 8) {
				got, e := bits.Put(b, at, v)
				noBytes(t, got, e, api.ErrArg, "Put", b, at, v)
			}
		}
	}
}

// What is handed in isn't changed, nor what lies behind it, and what is told shares nothing with it.
func TestPutIsNewMemory(t *testing.T) {
	b := ground.Roomy([]byte{1, 2, 3})
	array := slices.Clone(b[:cap(b)])
	got, e := bits.Put(b, 4, api.Vec{W: 12, Lo: 0xabc})
	isBytes(t, got, e, []byte{0x0a, 0xbc, 3}, "Put", b)
	again, e := bits.Put(b, 4, api.Vec{W: 12, Lo: 0xabc})
	isBytes(t, again, e, []byte{0x0a, 0xbc, 3}, "Put", b)
	ground.Turn(got)
	isBytes(t, b[:cap(b)], api.OK, array, "turned what was told:", b)
	isBytes(t, again, api.OK, []byte{0x0a, 0xbc, 3}, "turned what was told:", again)
	ground.Turn(b)
	isBytes(t, again, api.OK, []byte{0x0a, 0xbc, 3}, "turned what was handed in:", again)
}

// Promise P1, at places and widths whose sums and differences go round.
func TestGetAndPutOfOddNumbers(t *testing.T) {
	odd := []int{math.MinInt, math.MinInt + 1, math.MinInt + 127, math.MinInt + 128, -128, -1, 0, 1, 127, 128, 129, math.MaxInt - 128, math.MaxInt - 127, math.MaxInt - 1, math.MaxInt}
	for _, b := range grounds() {
		for _, at := range odd {
			for _, w := range odd {
				inside := at >= 0 && at <= 1000 && w >= 1 && w <= 128 && at+w <= 8*len(b)
				if v, e := bits.Get(b, at, w); (e == api.OK) != inside || v.W != 0 && !inside {
					t.Fatalf("Get(%x, %d, %d) = %v, %d", b, at, w, v, e)
				}
				if got, e := bits.Put(b, at, api.Vec{W: w}); (e == api.OK) != inside || len(got) != 0 && !inside {
					t.Fatalf("Put(%x, %d, %d'0) = %x, %d", b, at, w, got, e)
				}
			}
		}
	}
}
