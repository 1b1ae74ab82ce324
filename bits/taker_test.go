package bits_test

import (
	"fmt"
	"math"
	"slices"
	"testing"

	"shunter/api"
	"shunter/bits"
	"shunter/ground"
)

// stands asks where a Taker is.
func stands(t *testing.T, k *bits.Taker, at, left int) {
	t.Helper()
	if k.At() != at || k.Left() != left {
		t.Fatalf("at %d, %d left; want %d, %d", k.At(), k.Left(), at, left)
	}
}

// takerAt is a Taker of bytes that took n bits.
func takerAt(t *testing.T, b []byte, n int) *bits.Taker {
	t.Helper()
	k := bits.Take(b)
	for left := n; left > 0; left -= 128 {
		if v, e := k.Vec(min(left, 128)); e != api.OK {
			t.Fatalf("Vec(%d) at %d of %d bytes = %v, %d", min(left, 128), k.At(), len(b), v, e)
		}
	}
	stands(t, k, n, 8*len(b)-n)
	return k
}

// Promise 3.3.

func TestTakerOfNoBytes(t *testing.T) {
	for _, b := range [][]byte{nil, {}} {
		k := bits.Take(b)
		stands(t, k, 0, 0)
		v, e := k.Vec(1)
		noRow(t, v, e, api.ErrEnd, "Vec", 1)
		v, e = k.Look(0, 1)
		noRow(t, v, e, api.ErrEnd, "Look", 0, 1)
		got, e := k.Bytes(1)
		noBytes(t, got, e, api.ErrEnd, "Bytes", 1)
		got, e = k.Bytes(0)
		isBytes(t, got, e, nil, "Bytes", 0)
		stands(t, k, 0, 0)
	}
}

func TestTakerVec(t *testing.T) {
	for _, b := range grounds() {
		s := spread(b)
		for n := range len(s) + 1 {
			for w := 1; w <= 128; w++ {
				k := takerAt(t, b, n)
				v, e := k.Vec(w)
				if n+w > len(s) {
					noRow(t, v, e, api.ErrEnd, "Vec", w, "at", n, "of", b)
					stands(t, k, n, len(s)-n)
					continue
				}
				isRow(t, v, e, s[n:n+w], "Vec", w, "at", n, "of", b)
				stands(t, k, n+w, len(s)-n-w)
			}
		}
	}
}

// A wrong width is told, where there aren't as many bits, too.
func TestTakerOfWrongWidths(t *testing.T) {
	for _, b := range grounds() {
		for _, n := range []int{0, 4 * len(b), 8 * len(b)} {
			k := takerAt(t, b, n)
			for _, w := range wrongWidths() {
				v, e := k.Vec(w)
				noRow(t, v, e, api.ErrWidth, "Vec", w)
				for _, ahead := range append(wrongPlaces(8*len(b), 1), 0, 1) {
					v, e = k.Look(ahead, w)
					noRow(t, v, e, api.ErrWidth, "Look", ahead, w)
				}
			}
			stands(t, k, n, 8*len(b)-n)
		}
	}
}

func TestTakerLook(t *testing.T) {
	for _, b := range [][]byte{nil, {0xd2}, ground.Bytes(2), ground.Bytes(17), ground.Bytes(40)} {
		s := spread(b)
		for n := range len(s) + 1 {
			k := takerAt(t, b, n)
			for _, w := range widths() {
				for ahead := range len(s) + 10 {
					v, e := k.Look(ahead, w)
					if n+ahead+w > len(s) {
						noRow(t, v, e, api.ErrEnd, "Look", ahead, w, "at", n, "of", b)
						continue
					}
					isRow(t, v, e, s[n+ahead:n+ahead+w], "Look", ahead, w, "at", n, "of", b)
				}
			}
			stands(t, k, n, len(s)-n)
		}
	}
}

// A number below 0 is told before the end, and the greatest int is past it.
func TestTakerLookFaults(t *testing.T) {
	for _, b := range grounds() {
		for _, n := range []int{0, min(1, len(b)), 8 * len(b)} {
			k := takerAt(t, b, n)
			for _, w := range widths() {
				for _, ahead := range []int{math.MinInt, math.MinInt + 1, math.MinInt32, -128, -8, -1} {
					v, e := k.Look(ahead, w)
					noRow(t, v, e, api.ErrRange, "Look", ahead, w)
				}
				for _, ahead := range []int{8 * len(b), 8*len(b) + 1, math.MaxInt32, math.MaxInt - 128, math.MaxInt - 8, math.MaxInt - 1, math.MaxInt} {
					v, e := k.Look(ahead, w)
					noRow(t, v, e, api.ErrEnd, "Look", ahead, w)
				}
			}
			stands(t, k, n, 8*len(b)-n)
		}
	}
}

func TestTakerBytes(t *testing.T) {
	for _, b := range grounds() {
		for from := range len(b) + 1 {
			for n := range len(b) - from + 1 {
				k := takerAt(t, b, 8*from)
				got, e := k.Bytes(n)
				isBytes(t, got, e, b[from:from+n], "Bytes", n, "at", from, "of", b)
				stands(t, k, 8*(from+n), 8*(len(b)-from-n))
			}
			k := takerAt(t, b, 8*from)
			for _, n := range []int{len(b) - from + 1, len(b) + 1, 9217, math.MaxInt / 8, math.MaxInt/8 + 1, 1 << 61, math.MaxInt - 1, math.MaxInt} {
				got, e := k.Bytes(n)
				noBytes(t, got, e, api.ErrEnd, "Bytes", n, "at", from, "of", b)
			}
			for _, n := range []int{-1, -2, -len(b) - 1, math.MinInt32, -1 << 61, math.MinInt + 1, math.MinInt} {
				got, e := k.Bytes(n)
				noBytes(t, got, e, api.ErrRange, "Bytes", n, "at", from, "of", b)
			}
			stands(t, k, 8*from, 8*(len(b)-from))
		}
	}
}

// Where the bits taken don't make whole bytes that is told first, of whatever number of bytes.
func TestTakerOfBytesNotNow(t *testing.T) {
	b := ground.Bytes(20)
	for n := range 8 * len(b) {
		if n%8 == 0 {
			continue
		}
		k := takerAt(t, b, n)
		for _, count := range []int{math.MinInt, -1, 0, 1, 2, 20, 21, math.MaxInt} {
			got, e := k.Bytes(count)
			noBytes(t, got, e, api.ErrState, "Bytes", count, "at", n)
		}
		stands(t, k, n, 8*len(b)-n)
		v, e := k.Vec(8 - n%8)
		isRow(t, v, e, spread(b)[n:n/8*8+8], "Vec", 8-n%8, "at", n)
		got, e := k.Bytes(len(b) - n/8 - 1)
		isBytes(t, got, e, b[n/8+1:], "Bytes", len(b)-n/8-1)
		stands(t, k, 8*len(b), 0)
	}
}

// A Taker isn't held to so many bytes as a packet may have.
func TestTakerOfManyBytes(t *testing.T) {
	b := ground.Bytes(100000)
	k := bits.Take(b)
	stands(t, k, 0, 800000)
	got, e := k.Bytes(99990)
	isBytes(t, got, e, b[:99990], "Bytes", 99990)
	v, e := k.Look(1, 79)
	isRow(t, v, e, spread(b[99990:])[1:], "Look", 1, 79)
	v, e = k.Vec(80)
	isRow(t, v, e, spread(b[99990:]), "Vec", 80)
	stands(t, k, 800000, 0)
}

func TestNilTaker(t *testing.T) {
	var k *bits.Taker
	for _, w := range append(wrongWidths(), widths()...) {
		v, e := k.Vec(w)
		noRow(t, v, e, api.ErrArg, "Vec", w)
		for _, ahead := range []int{math.MinInt, -1, 0, 1, math.MaxInt} {
			v, e = k.Look(ahead, w)
			noRow(t, v, e, api.ErrArg, "Look", ahead, w)
		}
	}
	for _, n := range []int{math.MinInt, -1, 0, 1, math.MaxInt} {
		got, e := k.Bytes(n)
		noBytes(t, got, e, api.ErrArg, "Bytes", n)
	}
	stands(t, k, 0, 0)
}

// What is handed in isn't changed or kept, and what was told is no part of what is still to come.
func TestTakerIsNewMemory(t *testing.T) {
	b := ground.Roomy(ground.Bytes(12))
	want := slices.Clone(b)
	array := slices.Clone(b[:cap(b)])
	k, other := bits.Take(b), bits.Take(b)
	first, e := k.Bytes(3)
	isBytes(t, first, e, want[:3], "Bytes", 3)
	second, e := k.Bytes(3)
	isBytes(t, second, e, want[3:6], "Bytes", 3)
	isBytes(t, b[:cap(b)], api.OK, array, "what was handed in:")
	ground.Turn(b)
	ground.Turn(first)
	none, e := k.Bytes(0)
	isBytes(t, none, e, nil, "Bytes", 0)
	ground.Turn(none)
	isBytes(t, second, api.OK, want[3:6], "what was told then:")
	v, e := k.Look(0, 48)
	isRow(t, v, e, spread(want[6:]), "Look", 0, 48)
	rest, e := k.Bytes(6)
	isBytes(t, rest, e, want[6:], "Bytes", 6)
	ground.Turn(rest)
	isBytes(t, second, api.OK, want[3:6], "what was told then:")
	all, e := other.Bytes(12)
	isBytes(t, all, e, want, "Bytes", 12)
}

// Promise 3.4: what a Row was made of is taken off its bytes again.
func TestWhatARowWasMadeOfIsTakenAgain(t *testing.T) {
	for seed := range 40 {
		var r bits.Row
		rows, pieces := []api.Vec{}, [][]byte{}
		for i, x := range ground.Bytes(60 + seed) {
			w := widths()[int(x)%len(widths())]
			rows = append(rows, sample(w)[i%7])
			adds(t, &r, rows[i])
			pieces = append(pieces, nil)
			if r.Len()%8 == 0 {
				pieces[i] = ground.Bytes(int(x) % 20)
				addsBytes(t, &r, pieces[i])
			}
		}
		k := bits.Take(r.All())
		for i, v := range rows {
			got, e := k.Vec(v.W)
			isRow(t, got, e, digits(v), "Vec", v.W)
			if k.At()%8 == 0 {
				b, e := k.Bytes(len(pieces[i]))
				isBytes(t, b, e, pieces[i], "Bytes", len(pieces[i]))
			}
		}
		stands(t, k, r.Len(), 8*len(r.All())-r.Len())
		if k.Left() > 7 {
			t.Fatal("whole bytes are left:", k.Left())
		}
		for range k.Left() {
			v, e := k.Vec(1)
			isRow(t, v, e, "0", "Vec", 1, fmt.Sprint("at ", k.At()))
		}
	}
}
