package sum

import "math"

// Without is the checksum of bytes without two of them.
func Without(b []byte, at int) (uint16, bool) {
	if !mayPlace(b, at) {
		return 0, false
	}
	// A word of 0 adds nothing, and at is even: the words behind it are cut as they were.
	var a Adder
	a.Add(b[:at])
	a.Add(b[at+2:])
	return a.Sum(), true
}

// Fix is bytes with their checksum.
func Fix(b []byte, at int) ([]byte, bool) {
	n, ok := Without(b, at)
	if !ok {
		return nil, false
	}
	b = append(b[:0:0], b...)
	b[at], b[at+1] = byte(n>>8), byte(n)
	return b, true
}

// Patch is the checksum behind one word is another one.
func Patch(sum, old, fresh uint16) uint16 {
	n := uint64(math.MaxUint16-sum) + uint64(math.MaxUint16-old) + uint64(fresh)
	return math.MaxUint16 - fold(n)
}

// mayPlace holds at against a difference because a sum with it might go round.
func mayPlace(b []byte, at int) bool {
	return at >= 0 && at%2 == 0 && at <= len(b)-2
}
