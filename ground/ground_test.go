package ground_test

import (
	"bytes"
	"slices"
	"testing"

	"shunter/ground"
)

func TestTheSameInEachRun(t *testing.T) {
	x := uint64(1)
	if a, b := ground.Number(&x), ground.Number(&x); a != 0x910a2dec89025cc1 || b != 0xbeeb8da1658eec67 {
		t.Errorf("Numbers from 1 on = %x, %x", a, b)
	}
	for n := range 300 {
		b := ground.Bytes(n)
		if len(b) != n || !bytes.Equal(b, ground.Bytes(n)) {
			t.Errorf("%d bytes = %x", n, b)
		}
		for _, m := range []int{1, 2, 4} {
			if n > 8*m && bytes.Equal(b[m:], b[:n-m]) {
				t.Errorf("%d bytes go round by %d: %x", n, m, b)
			}
		}
	}
}

func TestRoomyAndTurn(t *testing.T) {
	b := []byte{1, 2}
	r := ground.Roomy(b)
	if !bytes.Equal(r, b) || !bytes.Equal(r[:6], []byte{1, 2, 0xa5, 0x5a, 0xa5, 0x5a}) {
		t.Errorf("Roomy(%x) = %x", b, r[:cap(r)])
	}
	all := slices.Clone(r[:cap(r)])
	ground.Turn(r)
	for i, x := range r[:cap(r)] {
		if x != ^all[i] {
			t.Errorf("Turn(%x) = %x", all, r[:cap(r)])
		}
	}
	if !bytes.Equal(b, []byte{1, 2}) {
		t.Errorf("changed to %x", b)
	}
}
