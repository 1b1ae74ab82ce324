package sum_test

import (
	"slices"
	"testing"

	"shunter/ground"
	"shunter/sum"
)

// Promise 4.1.

func TestOf(t *testing.T) {
	for _, b := range append(grounds(), longs()...) {
		if got := sum.Of(b); got != sumOf(b) {
			t.Fatalf("Of %d bytes = %04x; want %04x", len(b), got, sumOf(b))
		}
	}
}

func TestOfEdges(t *testing.T) {
	for _, c := range []struct {
		b    []byte
		want uint16
	}{
		{[]byte{0x45, 0, 0, 0x1c}, 0xbae3},                               // the chapter's example
		{[]byte{0x00, 0x01, 0xf2, 0x03, 0xf4, 0xf5, 0xf6, 0xf7}, 0x220d}, // RFC 1071's
		{nil, 0xffff},                                                          // no bytes
		{[]byte{0x12}, 0xedff},                                                 // one is the higher one of a word
		{[]byte{0x12, 0x34, 0x56}, 0x97cb},                                     // an odd number
		{[]byte{0, 0, 0}, 0xffff},                                              // a total of 0
		{[]byte{0xff, 0xfe, 0, 1}, 0},                                          // a total of just ffff
		{[]byte{0xff, 0xff, 0, 0}, 0},                                          // another one
		{[]byte{0xff, 0xff, 0, 1}, 0xfffe},                                     // 1:0000 goes over 16 bits once
		{[]byte{0xff, 0xff, 0xff, 0xff}, 0},                                    // 1:fffe
		{[]byte{0xff, 0xff, 0xff, 0xff, 0, 1}, 0xfffe},                         // 1:ffff goes over twice
		{[]byte{0xff, 0xff, 0xff, 0xff, 0xff, 0xff, 0xff, 0xff, 0, 3}, 0xfffc}, // 3:ffff, too
	} {
		is(t, sum.Of(c.b), c.want, "Of", c.b)
	}
}

func TestRight(t *testing.T) {
	for _, b := range append(grounds(), longs()...) {
		if got, want := sum.Right(b), sumOf(b) == 0; got != want {
			t.Fatalf("Right of %d bytes = %t; want %t", len(b), got, want)
		}
	}
	packet := []byte{0x45, 0, 0, 0x73, 0, 0, 0x40, 0, 0x40, 0x11, 0xb8, 0x61, 0xc0, 0xa8, 0, 1, 0xc0, 0xa8, 0, 0xc7}
	for _, c := range []struct {
		b    []byte
		want bool
	}{
		{packet, true}, {packet[:19], false}, {append([]byte{0, 0}, packet...), true}, {append([]byte{1}, packet...), false}, {append([]byte{0, 1}, packet...), false},
		{nil, false}, {[]byte{0}, false}, {[]byte{0, 0}, false}, {[]byte{0xff}, false}, {[]byte{0xff, 0xff}, true}, {[]byte{0xff, 0xff, 0}, true}, {[]byte{0xfe, 0xff, 1}, true}, {[]byte{0xff, 0xfe}, false},
	} {
		if got := sum.Right(c.b); got != c.want {
			t.Errorf("Right(%x) = %t; want %t", c.b, got, c.want)
		}
	}
}

// isAt holds what an Adder tells against all bytes that were added to it; it's asked twice, for asking changes nothing.
func isAt(t *testing.T, a *sum.Adder, b []byte, args ...any) {
	t.Helper()
	for range 2 {
		is(t, a.Total(), totalOf(words(b)...), "Total", b, args)
		is(t, a.Sum(), sumOf(b), "Sum", b, args)
	}
}

// Promises 4.1 and 4.4: bytes cut anywhere into three pieces, of which some have no bytes.
func TestAdderInPieces(t *testing.T) {
	for _, b := range grounds() {
		for i := range len(b) + 1 {
			for j := i; j <= len(b); j++ {
				var a sum.Adder
				isAt(t, &a, nil)
				a.Add(b[:i])
				isAt(t, &a, b[:i], i)
				a.Add(b[i:j])
				isAt(t, &a, b[:j], i, j)
				a.Add(b[j:])
				isAt(t, &a, b, i, j)
			}
		}
	}
}

// The pieces are of one length each, with no bytes in between; an Adder isn't asked till the end as well.
func TestAdderInManyPieces(t *testing.T) {
	for _, b := range append(grounds(), longs()...) {
		for _, n := range []int{1, 2, 3, 5, 7, 4097} {
			var a, silent sum.Adder
			for rest := b; len(rest) > 0; {
				piece := rest[:min(n, len(rest))]
				rest = rest[len(piece):]
				for _, p := range [][]byte{nil, piece, {}} {
					a.Add(p)
					silent.Add(p)
					if got := a.Sum(); got != 65535-a.Total() {
						t.Fatalf("Sum = %04x beside Total = %04x", got, a.Total())
					}
				}
			}
			if got := []uint16{a.Total(), a.Sum(), silent.Total(), silent.Sum()}; !slices.Equal(got, []uint16{65535 - sumOf(b), sumOf(b), 65535 - sumOf(b), sumOf(b)}) {
				t.Fatalf("%d bytes in pieces of %d: %04x; want the checksum %04x", len(b), n, got, sumOf(b))
			}
		}
	}
}

// A byte that waits may be 0, and none that waited is counted twice.
func TestAdderWaits(t *testing.T) {
	var a sum.Adder
	for i, c := range []struct {
		piece []byte
		total uint16
	}{
		{[]byte{0}, 0},
		{nil, 0},
		{[]byte{0x12}, 0x0012},
		{[]byte{0, 0x34, 0x56}, 0x5646},
		{[]byte{}, 0x5646},
		{[]byte{0x78, 0}, 0x56be},
		{[]byte{0}, 0x56be},
		{[]byte{0xa9}, 0xffbe},
		{[]byte{0x41}, 0xffff},
		{[]byte{0}, 0xffff},
		{[]byte{1}, 1},
	} {
		a.Add(c.piece)
		is(t, a.Total(), c.total, "Total behind", i, c.piece)
		is(t, a.Sum(), 65535-c.total, "Sum behind", i, c.piece)
	}
}

// No Adder hangs on another one.
func TestAddersBesideEachOther(t *testing.T) {
	var a, b sum.Adder
	x, y := ground.Bytes(21), ground.Bytes(20)
	for i := range y {
		a.Add(x[i : i+1])
		b.Add(y[i : i+1])
	}
	isAt(t, &a, x[:20])
	isAt(t, &b, y)
	sum.Of(x)
	isAt(t, &a, x[:20])
}

func TestNilAdder(t *testing.T) {
	var a *sum.Adder
	for _, b := range [][]byte{nil, {}, {1}, {1, 2}, {1, 2, 3}} {
		a.Add(b)
		is(t, a.Total(), 0, "Total of none")
		is(t, a.Sum(), 65535, "Sum of none")
	}
}

// What is handed in isn't changed, and an Adder doesn't keep it: neither words, nor the byte that waits.
func TestAdderKeepsNoMemory(t *testing.T) {
	for _, g := range grounds() {
		b := ground.Roomy(g)
		array := slices.Clone(b[:cap(b)])
		var a sum.Adder
		a.Add(b)
		isAt(t, &a, g)
		sum.Of(b)
		sum.Right(b)
		isBytes(t, b[:cap(b)], array, "added:", g)
		ground.Turn(b)
		isAt(t, &a, g)
		a.Add([]byte{1, 2, 3})
		isAt(t, &a, append(slices.Clone(g), 1, 2, 3))
	}
}

// Promise 4.4: the checksum doesn't hang on the order of words.
func TestOrderOfWords(t *testing.T) {
	for _, b := range append(grounds(), longs()...) {
		l := words(b)
		want := sum.Of(b)
		for range min(len(l), 5) {
			l = append(l[1:], l[0])
			is(t, sum.Of(packed(l)), want, "Of words turned round:", len(b))
		}
		slices.Reverse(l)
		is(t, sum.Of(packed(l)), want, "Of words backwards:", len(b))
		slices.Sort(l)
		is(t, sum.Of(packed(l)), want, "Of words rising:", len(b))
	}
}
