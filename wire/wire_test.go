package wire_test

import (
	"bytes"
	"math"
	"slices"
	"strings"
	"testing"

	"shunter/api"
	"shunter/ground"
	"shunter/wire"
)

// fronts are bytes behind which others are written; a slice of each kind is among them.
func fronts() [][]byte {
	return [][]byte{nil, {}, {0}, {1, 2, 3}, ground.Roomy(nil), ground.Roomy([]byte{9}), ground.Roomy(ground.Bytes(300)), ground.Bytes(1000)}
}

// written asks that bytes are those of b and these behind, in new memory.
func written(t *testing.T, write func(b []byte) []byte, want []byte, call string, args ...any) {
	t.Helper()
	for _, b := range fronts() {
		all := slices.Clone(b[:cap(b)])
		whole := slices.Concat(b, want)
		got := write(b)
		if !bytes.Equal(got, whole) {
			t.Fatalf("%s%v behind %x = %x; want %x", call, args, b, got, whole)
		}
		other := write(b)
		ground.Turn(got)
		if !bytes.Equal(b[:cap(b)], all) {
			t.Fatalf("%s%v wrote over what it was handed: %x; want %x", call, args, b[:cap(b)], all)
		}
		ground.Turn(b)
		if !bytes.Equal(other, whole) {
			t.Fatalf("%s%v behind %x shares memory: %x; want %x", call, args, b, other, whole)
		}
	}
}

// Promise 7.1.

func TestWrittenNumbers(t *testing.T) {
	for _, n := range ints() {
		written(t, func(b []byte) []byte { return wire.Byte(b, n) }, numberBytes(n, 1), "Byte", n)
		written(t, func(b []byte) []byte { return wire.Two(b, n) }, numberBytes(n, 2), "Two", n)
		written(t, func(b []byte) []byte { return wire.Four(b, n) }, numberBytes(n, 4), "Four", n)
	}
}

func TestWrittenNumbersEdges(t *testing.T) {
	for _, c := range []struct {
		n               int
		byte, two, four string
	}{
		{0, "\x00", "\x00\x00", "\x00\x00\x00\x00"},
		{1, "\x01", "\x00\x01", "\x00\x00\x00\x01"},
		{255, "\xff", "\x00\xff", "\x00\x00\x00\xff"},
		{256, "\x00", "\x01\x00", "\x00\x00\x01\x00"},
		{0x1234, "\x34", "\x12\x34", "\x00\x00\x12\x34"},
		{65535, "\xff", "\xff\xff", "\x00\x00\xff\xff"},
		{65536, "\x00", "\x00\x00", "\x00\x01\x00\x00"},
		{0x12345678, "\x78", "\x56\x78", "\x12\x34\x56\x78"},
		{1<<32 - 1, "\xff", "\xff\xff", "\xff\xff\xff\xff"},
		{1 << 32, "\x00", "\x00\x00", "\x00\x00\x00\x00"},
		{0x123456789abcdef0, "\xf0", "\xde\xf0", "\x9a\xbc\xde\xf0"},
		{-1, "\xff", "\xff\xff", "\xff\xff\xff\xff"},
		{-2, "\xfe", "\xff\xfe", "\xff\xff\xff\xfe"},
		{-256, "\x00", "\xff\x00", "\xff\xff\xff\x00"},
		{math.MaxInt, "\xff", "\xff\xff", "\xff\xff\xff\xff"},
		{math.MinInt, "\x00", "\x00\x00", "\x00\x00\x00\x00"},
	} {
		if one, two, four := wire.Byte(nil, c.n), wire.Two(nil, c.n), wire.Four(nil, c.n); string(one) != c.byte || string(two) != c.two || string(four) != c.four {
			t.Errorf("%d is %x, %x, %x; want %x, %x, %x", c.n, one, two, four, c.byte, c.two, c.four)
		}
	}
}

func TestWrittenRows(t *testing.T) {
	for _, v := range slices.Concat(rows(), wrongRows()) {
		written(t, func(b []byte) []byte { return wire.Vec(b, v) }, rowBytes(v), "Vec", v)
	}
}

func TestWrittenRowsEdges(t *testing.T) {
	for _, c := range []struct {
		v    api.Vec
		want string
	}{
		{api.Vec{W: 12, Lo: 0xabc}, "\x0c\x0a\xbc"},
		{api.Vec{W: 12}, "\x0c\x00\x00"},
		{api.Vec{W: 12, Lo: 1}, "\x0c\x00\x01"},
		{api.Vec{W: 12, Lo: 0xfff}, "\x0c\x0f\xff"},
		{api.Vec{W: 12, Lo: 0x1000}, "\x00"},
		{api.Vec{W: 1}, "\x01\x00"},
		{api.Vec{W: 1, Lo: 1}, "\x01\x01"},
		{api.Vec{W: 1, Lo: 2}, "\x00"},
		{api.Vec{W: 7, Lo: 0x7f}, "\x07\x7f"},
		{api.Vec{W: 8, Lo: 0x40}, "\x08\x40"},
		{api.Vec{W: 8, Lo: 0x100}, "\x00"},
		{api.Vec{W: 9, Lo: 0x40}, "\x09\x00\x40"},
		{api.Vec{W: 16, Lo: 0x1234}, "\x10\x12\x34"},
		{api.Vec{W: 17, Lo: 0x12345}, "\x11\x01\x23\x45"},
		{api.Vec{W: 64, Lo: 0x0123456789abcdef}, "\x40\x01\x23\x45\x67\x89\xab\xcd\xef"},
		{api.Vec{W: 65, Hi: 1, Lo: 2}, "\x41\x01\x00\x00\x00\x00\x00\x00\x00\x02"},
		{api.Vec{W: 127, Hi: 1<<63 - 1}, "\x7f\x7f\xff\xff\xff\xff\xff\xff\xff\x00\x00\x00\x00\x00\x00\x00\x00"},
		{api.Vec{W: 128, Hi: 0xfedcba9876543210, Lo: 0x0123456789abcdef}, "\x80\xfe\xdc\xba\x98\x76\x54\x32\x10\x01\x23\x45\x67\x89\xab\xcd\xef"},
		{api.Vec{}, "\x00"},
		{api.Vec{W: 129}, "\x00"},
		{api.Vec{W: 257, Lo: 1}, "\x00"},
		{api.Vec{W: -8, Lo: 1}, "\x00"},
	} {
		if got := wire.Vec(nil, c.v); string(got) != c.want {
			t.Errorf("Vec(%v) = %x; want %x", c.v, got, c.want)
		}
	}
}

// A text that is no name is written, too: only its length counts.
func TestWrittenNames(t *testing.T) {
	texts := slices.Concat(names(), wrongNames(), []string{strings.Repeat("é", 128), strings.Repeat("a", 256), strings.Repeat("a", 257), strings.Repeat("a", 300), strings.Repeat("a", 511), strings.Repeat("a", 512), strings.Repeat("\x00", 70000)})
	for n := range 260 {
		texts = append(texts, string(ground.Bytes(n)))
	}
	for _, s := range texts {
		written(t, func(b []byte) []byte { return wire.Name(b, s) }, nameBytes(s), "Name", s)
	}
	for _, c := range []struct{ s, want string }{
		{"", "\x00"}, {"a", "\x01a"}, {"ip.ttl", "\x06ip.ttl"}, {"é", "\x02\xc3\xa9"}, {"a b", "\x03a b"}, {"\xff", "\x01\xff"},
		{strings.Repeat("x", 255), "\xff" + strings.Repeat("x", 255)}, {strings.Repeat("x", 256), "\x00"},
	} {
		if got := wire.Name(nil, c.s); string(got) != c.want {
			t.Errorf("Name(%q) = %x; want %x", c.s, got, c.want)
		}
	}
}

func TestWrittenLists(t *testing.T) {
	tooMany := [][]api.Vec{rows()[:256], rows()[:257], rows()[:512], slices.Repeat([]api.Vec{{W: 8}}, 65536)}
	for _, l := range slices.Concat(rowLists(), tooMany, [][]api.Vec{rows()[:255], wrongRows(), {{W: 8, Lo: 1}, {}, {W: 4, Lo: 2}}}) {
		kept := slices.Clone(l)
		written(t, func(b []byte) []byte { return wire.Vecs(b, l) }, rowsBytes(l), "Vecs", len(l))
		if !slices.Equal(l, kept) {
			t.Fatalf("Vecs changed %v to %v", kept, l)
		}
	}
	for _, l := range append(numberLists(), ints(), ints()[:255], ints()[:256], ints()[:257], slices.Repeat([]int{7}, 65537), []int{-1, 256, 257, 1 << 40, math.MinInt, math.MaxInt}) {
		kept := slices.Clone(l)
		written(t, func(b []byte) []byte { return wire.Numbers(b, l) }, numbersBytes(l), "Numbers", len(l))
		if !slices.Equal(l, kept) {
			t.Fatalf("Numbers changed %v to %v", kept, l)
		}
	}
}

func TestWrittenListsEdges(t *testing.T) {
	for _, c := range []struct {
		l    []api.Vec
		want string
	}{
		{nil, "\x00"}, {[]api.Vec{}, "\x00"}, {[]api.Vec{{W: 12, Lo: 0xabc}}, "\x01\x0c\x0a\xbc"}, {[]api.Vec{{W: 1, Lo: 1}, {W: 9, Lo: 3}}, "\x02\x01\x01\x09\x00\x03"},
		{[]api.Vec{{}}, "\x01\x00"}, {[]api.Vec{{W: 8, Lo: 5}, {W: 1, Lo: 2}, {W: 8, Lo: 6}}, "\x03\x08\x05\x00\x08\x06"},
		{make([]api.Vec, 255), "\xff" + strings.Repeat("\x00", 255)}, {make([]api.Vec, 256), "\x00"},
	} {
		if got := wire.Vecs(nil, c.l); string(got) != c.want {
			t.Errorf("Vecs(%v) = %x; want %x", c.l, got, c.want)
		}
	}
	for _, c := range []struct {
		l    []int
		want string
	}{
		{nil, "\x00"}, {[]int{}, "\x00"}, {[]int{0, 1}, "\x02\x00\x01"}, {[]int{255, 256, -1}, "\x03\xff\x00\xff"},
		{make([]int, 255), "\xff" + strings.Repeat("\x00", 255)}, {make([]int, 256), "\x00"},
	} {
		if got := wire.Numbers(nil, c.l); string(got) != c.want {
			t.Errorf("Numbers(%v) = %x; want %x", c.l, got, c.want)
		}
	}
}
