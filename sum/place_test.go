package sum_test

import (
	"slices"
	"testing"

	"shunter/ground"
	"shunter/sum"
)

// Promise 4.2.

func TestWithout(t *testing.T) {
	for _, b := range grounds() {
		for _, at := range places(b) {
			n, ok := sum.Without(b, at)
			var want uint16
			if mayBe(b, at) {
				want = sumOf(with(b, at, 0))
			}
			if n != want || ok != mayBe(b, at) {
				t.Fatalf("Without(%x, %d) = %04x, %t; want %04x, %t", b, at, n, ok, want, mayBe(b, at))
			}
		}
	}
}

func TestWithoutEdges(t *testing.T) {
	packet := []byte{0x45, 0, 0, 0x73, 0, 0, 0x40, 0, 0x40, 0x11, 0xb8, 0x61, 0xc0, 0xa8, 0, 1, 0xc0, 0xa8, 0, 0xc7}
	for _, c := range []struct {
		b    []byte
		at   int
		want uint16
		ok   bool
	}{
		{packet, 10, 0xb861, true}, {packet, 0, 0x4500, true}, {packet, 18, 0x00c7, true}, {packet, 19, 0, false}, {packet, 20, 0, false}, {packet, 9, 0, false},
		{[]byte{1, 2, 3}, 0, 0xfcff, true}, {[]byte{1, 2, 3}, 1, 0, false}, {[]byte{1, 2, 3}, 2, 0, false},
		{[]byte{1, 2}, 0, 0xffff, true}, {[]byte{1, 2}, -2, 0, false}, {[]byte{1, 2}, 2, 0, false},
		{[]byte{1}, 0, 0, false}, {nil, 0, 0, false}, {nil, -2, 0, false},
	} {
		if n, ok := sum.Without(c.b, c.at); n != c.want || ok != c.ok {
			t.Errorf("Without(%x, %d) = %04x, %t; want %04x, %t", c.b, c.at, n, ok, c.want, c.ok)
		}
	}
}

// Promises 4.2 and 4.4: what was fixed is right, and no other byte of it is changed.
func TestFix(t *testing.T) {
	for _, b := range grounds() {
		for _, at := range places(b) {
			got, ok := sum.Fix(b, at)
			if ok != mayBe(b, at) {
				t.Fatalf("Fix(%x, %d) = %x, %t; want %t", b, at, got, ok, mayBe(b, at))
			}
			if !ok {
				isBytes(t, got, nil, "Fix", b, at)
				continue
			}
			isBytes(t, got, with(b, at, sumOf(with(b, at, 0))), "Fix", b, at)
			if !sum.Right(got) {
				t.Fatalf("Fix(%x, %d) = %x, which isn't right", b, at, got)
			}
			again, _ := sum.Fix(got, at)
			isBytes(t, again, got, "fixed again:", b, at)
		}
	}
}

func TestFixEdges(t *testing.T) {
	for _, c := range []struct {
		b    []byte
		at   int
		want []byte
	}{
		{[]byte{1, 2, 0, 0}, 2, []byte{1, 2, 0xfe, 0xfd}},
		{[]byte{1, 2, 0xab, 0xcd}, 2, []byte{1, 2, 0xfe, 0xfd}},
		{[]byte{0xab, 0xcd, 1}, 0, []byte{0xfe, 0xff, 1}},
		{[]byte{0, 0}, 0, []byte{0xff, 0xff}},
		{[]byte{0xff, 0xff, 1, 1}, 2, []byte{0xff, 0xff, 0, 0}},
		{[]byte{0xff, 0xff, 1, 1, 0xff, 0xff, 0, 1}, 2, []byte{0xff, 0xff, 0xff, 0xfe, 0xff, 0xff, 0, 1}},
	} {
		b, ok := sum.Fix(c.b, c.at)
		isBytes(t, b, c.want, "Fix", c.b, c.at, ok)
		if !ok || !sum.Right(b) {
			t.Errorf("Fix(%x, %d) = %x, %t; want a right one", c.b, c.at, b, ok)
		}
	}
}

// What is handed in isn't changed, nor what lies behind it, and what is told shares nothing with it.
func TestFixIsNewMemory(t *testing.T) {
	for _, at := range []int{0, 2} {
		b := ground.Roomy([]byte{1, 2, 3, 4, 5})
		array := slices.Clone(b[:cap(b)])
		want := with(b, at, sumOf(with(b, at, 0)))
		got, _ := sum.Fix(b, at)
		again, _ := sum.Fix(b, at)
		sum.Without(b, at)
		isBytes(t, got, want, "Fix", at)
		ground.Turn(got)
		isBytes(t, b[:cap(b)], array, "turned what was told:", at)
		isBytes(t, again, want, "turned what was told:", at)
		ground.Turn(b)
		isBytes(t, again, want, "turned what was handed in:", at)
	}
}

// Promise 4.3.

func TestPatch(t *testing.T) {
	for _, n := range samples() {
		for _, old := range samples() {
			for _, fresh := range samples() {
				is(t, sum.Patch(n, old, fresh), 65535-totalOf(65535-n, 65535-old, fresh), "Patch", n, old, fresh)
			}
		}
	}
}

func TestPatchEdges(t *testing.T) {
	for _, c := range []struct{ sum, old, fresh, want uint16 }{
		{0xdd2f, 0x5555, 0x3285, 0x0000}, // RFC 1624's
		{0xbae3, 0x4500, 0x4600, 0xb9e3},
		{0xbae3, 0x001c, 0x001c, 0xbae3},
		{0xffff, 0xffff, 0x0000, 0xffff}, // a total of 0
		{0xffff, 0x0000, 0x0000, 0x0000}, // a total of just ffff
		{0x0000, 0x0000, 0xffff, 0x0000}, // 2:fffd
		{0x0000, 0x0000, 0x0001, 0xfffe}, // 1:ffff goes over 16 bits twice
	} {
		is(t, sum.Patch(c.sum, c.old, c.fresh), c.want, "Patch", c.sum, c.old, c.fresh)
	}
}

// Promise 4.4: any word of bytes is changed, the last one of an odd number to one that has a 0 behind, too.
func TestPatchIsOfChangedBytes(t *testing.T) {
	for _, b := range grounds() {
		for at := 0; at < len(b); at += 2 {
			for _, fresh := range samples() {
				l := words(b)
				old := l[at/2]
				if at+1 == len(b) {
					fresh &= 0xff00
				}
				l[at/2] = fresh
				changed := packed(l)[:len(b)]
				want := sum.Of(changed)
				if totalOf(l...) == 0 {
					want = 0 // of noughts alone the word that was taken away leaves a total of ffff
				}
				is(t, sum.Patch(sum.Of(b), old, fresh), want, "Patch", b, at, fresh)
			}
		}
	}
}

// One word after the other is changed, and the checksum goes along.
func TestPatchWordByWord(t *testing.T) {
	from, to := ground.Bytes(28), ground.Bytes(33)[:28]
	n := sum.Of(from)
	b := slices.Clone(from)
	for at := 0; at < len(b); at += 2 {
		old, fresh := words(b)[at/2], words(to)[at/2]
		b = with(b, at, fresh)
		n = sum.Patch(n, old, fresh)
		is(t, n, sum.Of(b), "Patch", at, old, fresh)
	}
	is(t, n, sum.Of(to), "Patch of all words")
}
