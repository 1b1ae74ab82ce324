package sum_test

import (
	"bytes"
	"math"
	"math/big"
	"slices"
	"testing"

	"shunter/ground"
)

// The model adds words as numbers of any size, and folds them at one stroke: a total above 0 is what its number is by 65,535, with 65,535 in place of 0.

func words(b []byte) []uint16 {
	var l []uint16
	for len(b) > 1 {
		l = append(l, uint16(b[0])*256+uint16(b[1]))
		b = b[2:]
	}
	if len(b) > 0 {
		l = append(l, uint16(b[0])*256)
	}
	return l
}

func packed(l []uint16) []byte {
	var b []byte
	for _, w := range l {
		b = append(b, byte(w/256), byte(w%256))
	}
	return b
}

func totalOf(l ...uint16) uint16 {
	n := new(big.Int)
	for _, w := range l {
		n.Add(n, big.NewInt(int64(w)))
	}
	if n.Sign() == 0 {
		return 0
	}
	one := big.NewInt(1)
	n.Mod(n.Sub(n, one), big.NewInt(65535))
	return uint16(n.Add(n, one).Uint64())
}

func sumOf(b []byte) uint16 {
	return 65535 - totalOf(words(b)...)
}

// mayBe tells whether two bytes from at on may hold a checksum.
func mayBe(b []byte, at int) bool {
	for i := 0; i+1 < len(b); i += 2 {
		if i == at {
			return true
		}
	}
	return false
}

// with is the bytes with a word in two of them.
func with(b []byte, at int, w uint16) []byte {
	b = slices.Clone(b)
	b[at], b[at+1] = byte(w/256), byte(w%256)
	return b
}

// grounds are few bytes: none, one, an even and an odd number, and those whose words add up to an edge.
func grounds() [][]byte {
	l := [][]byte{
		nil, {}, {0}, {1}, {0x80}, {0xff},
		{0, 0}, {0, 1}, {1, 0}, {0x80, 0}, {0, 0xff}, {0xff, 0}, {0xff, 0xfe}, {0xff, 0xff},
		{0, 0, 0}, {0xff, 0xff, 0}, {0xff, 0xff, 1}, {0xfe, 0xff, 1}, {0, 0, 0xff}, {0xff, 0xff, 0xff},
		{0xff, 0xfe, 0, 1}, {0xff, 0xff, 0, 0}, {0xff, 0xff, 0, 1}, {0x80, 0, 0x80, 0}, {0x80, 0, 0x7f, 0xff},
		{0xff, 0xff, 0xff, 0xff}, {0xff, 0xff, 0xff, 0xff, 0, 1}, {0xff, 0xff, 0xff, 0xff, 0, 2}, {0xff, 0xff, 0xff, 0xff, 1},
	}
	for _, n := range []int{1, 2, 3, 4, 5, 8, 15, 20, 21, 28, 33} {
		l = append(l, ground.Bytes(n), make([]byte, n), bytes.Repeat([]byte{0xff}, n))
	}
	return l
}

// longs are bytes whose words add up to more than 32 bits hold, or to just as much.
func longs() [][]byte {
	var l [][]byte
	for _, n := range []int{2 * 65536, 2*65537 - 1, 2 * 65537, 2*65537 + 1, 2 * 65538, 300001} {
		l = append(l, ground.Bytes(n), make([]byte, n), bytes.Repeat([]byte{0xff}, n))
	}
	return l
}

func samples() []uint16 {
	return []uint16{0, 1, 2, 0xff, 0x100, 0x101, 0x1234, 0x5555, 0x7fff, 0x8000, 0x8001, 0xaaaa, 0xff00, 0xfffd, 0xfffe, 0xffff}
}

// places are from below the first byte to behind the last one, and those where a sum or a difference goes round.
func places(b []byte) []int {
	l := []int{math.MinInt, math.MinInt + 1, math.MinInt + 2, math.MinInt32, -65536, -8, -4, math.MaxInt32, math.MaxInt32 + 1, math.MaxInt - 3, math.MaxInt - 2, math.MaxInt - 1, math.MaxInt}
	for at := -3; at <= len(b)+3; at++ {
		l = append(l, at)
	}
	return l
}

func is(t *testing.T, got, want uint16, call string, args ...any) {
	t.Helper()
	if got != want {
		t.Fatalf("%s%v = %04x; want %04x", call, args, got, want)
	}
}

func isBytes(t *testing.T, got, want []byte, call string, args ...any) {
	t.Helper()
	if !bytes.Equal(got, want) {
		t.Fatalf("%s%v: %x; want %x", call, args, got, want)
	}
}
