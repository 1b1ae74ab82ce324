package bits_test

import (
	"bytes"
	"fmt"
	"math"
	"math/big"
	"strings"
	"testing"

	"shunter/api"
	"shunter/ground"
	"shunter/vec"
)

// The model of bits is a text of 0 and 1, the first bit first.

func spread(b []byte) string {
	var s strings.Builder
	for _, x := range b {
		fmt.Fprintf(&s, "%08b", x)
	}
	return s.String()
}

// packed fills the last byte up with noughts.
func packed(s string) []byte {
	var b []byte
	for len(s) > 0 {
		n := min(8, len(s))
		x := byte(0)
		for i := range n {
			x |= (s[i] - '0') << (7 - i)
		}
		b, s = append(b, x), s[n:]
	}
	return b
}

func digits(v api.Vec) string {
	n := new(big.Int).SetUint64(v.Hi)
	n.Add(n.Lsh(n, 64), new(big.Int).SetUint64(v.Lo))
	return fmt.Sprintf("%0*b", v.W, n)
}

func row(s string) api.Vec {
	v := api.Vec{W: len(s)}
	for i := range len(s) {
		v.Hi, v.Lo = v.Hi<<1|v.Lo>>63, v.Lo<<1|uint64(s[i]-'0')
	}
	return v
}

// grounds are bytes to read of and to write to: none, few, so many that a row of 128 bits may lie anywhere in them.
func grounds() [][]byte {
	l := [][]byte{nil, {}, {0}, {0xff}, {0x80}, {0x01}}
	for _, n := range []int{1, 2, 3, 8, 9, 15, 16, 17, 18, 40} {
		l = append(l, ground.Bytes(n), make([]byte, n), bytes.Repeat([]byte{0xff}, n))
	}
	return l
}

func widths() []int {
	return []int{1, 2, 3, 7, 8, 9, 15, 16, 17, 31, 32, 33, 63, 64, 65, 66, 71, 72, 120, 121, 127, 128}
}

func wrongWidths() []int {
	return []int{math.MinInt, math.MinInt + 1, math.MinInt32, -129, -128, -8, -1, 0, 129, 130, 136, 256, math.MaxInt32, math.MaxInt - 1, math.MaxInt}
}

// sample has rows of a width: the edges, a bit at each end, and one that is mixed.
func sample(w int) []api.Vec {
	noughts, ones := strings.Repeat("0", w), strings.Repeat("1", w)
	l := []string{noughts, ones, "1" + noughts[1:], noughts[1:] + "1", "0" + ones[1:], ones[1:] + "0", spread(ground.Bytes(16))[:w]}
	var rows []api.Vec
	for _, s := range l {
		rows = append(rows, row(s))
	}
	return rows
}

// wrongRows are rows that may not be: of no width, or with a number that their width doesn't hold.
func wrongRows() []api.Vec {
	var l []api.Vec
	for _, w := range wrongWidths() {
		l = append(l, api.Vec{W: w}, api.Vec{W: w, Lo: 1}, api.Vec{W: w, Hi: math.MaxUint64, Lo: math.MaxUint64})
	}
	return append(l, api.Vec{W: 1, Lo: 2}, api.Vec{W: 8, Lo: 256}, api.Vec{W: 8, Hi: 1}, api.Vec{W: 63, Lo: 1 << 63}, api.Vec{W: 64, Hi: 1}, api.Vec{W: 127, Hi: 1 << 63})
}

// wrongPlaces are where w bits don't lie within n of them.
func wrongPlaces(n, w int) []int {
	return []int{math.MinInt, math.MinInt + 1, math.MinInt + 128, math.MinInt32, -129, -8, -1, max(0, n-w+1), n, n + 1, n + 8, n + 128, math.MaxInt32, math.MaxInt - 128, math.MaxInt - 8, math.MaxInt - 1, math.MaxInt}
}

func isRow(t *testing.T, v api.Vec, e api.Errno, want string, call string, args ...any) {
	t.Helper()
	if v != row(want) || e != api.OK || !vec.May(v) {
		t.Fatalf("%s%v = %v, %d; want the bits %s", call, args, v, e, want)
	}
}

func isBytes(t *testing.T, b []byte, e api.Errno, want []byte, call string, args ...any) {
	t.Helper()
	if !bytes.Equal(b, want) || e != api.OK {
		t.Fatalf("%s%v = %x, %d; want %x", call, args, b, e, want)
	}
}

// noRow and noBytes hold an error against what it must be, and ask that nothing stands beside it.

func noRow(t *testing.T, v api.Vec, e, want api.Errno, call string, args ...any) {
	t.Helper()
	if v != (api.Vec{}) || e != want {
		t.Fatalf("%s%v = %v, %d; want none, %d", call, args, v, e, want)
	}
}

func noBytes(t *testing.T, b []byte, e, want api.Errno, call string, args ...any) {
	t.Helper()
	if len(b) != 0 || e != want {
		t.Fatalf("%s%v = %x, %d; want none, %d", call, args, b, e, want)
	}
}
