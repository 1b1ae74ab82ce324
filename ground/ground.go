// Package ground has what the tests of several layers stand on: numbers and bytes that are mixed, but the same in each run, and images.
package ground

import "slices"

// Number goes on from x, which is changed to where the next one goes on.
func Number(x *uint64) uint64 {
	*x += 0x9e3779b97f4a7c15
	z := (*x ^ *x>>30) * 0xbf58476d1ce4e5b9
	z = (z ^ z>>27) * 0x94d049bb133111eb
	return z ^ z>>31
}

// Bytes are n bytes that hang on n alone.
func Bytes(n int) []byte {
	b := make([]byte, n)
	x := uint64(n)
	for i := range b {
		b[i] = byte(Number(&x))
	}
	return b
}

// Roomy has the same bytes, with other ones behind them in one array, so that a test sees who writes there.
func Roomy(b []byte) []byte {
	return append(slices.Clone(b), 0xa5, 0x5a, 0xa5, 0x5a)[:len(b)]
}

// Turn writes over bytes, and over all the room behind them, so that a test sees who shares them.
func Turn(b []byte) {
	b = b[:cap(b)]
	for i := range b {
		b[i] = ^b[i]
	}
}
