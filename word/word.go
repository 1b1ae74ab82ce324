// Package word is layer 1: see shared/doc/01-word.md.
package word

import (
	"math/bits"
)

const (
	half  = 64
	width = 2 * half
)

// Word is a whole number of 128 bits.
type Word struct {
	Hi, Lo uint64
}

// Add is a sum.
func Add(a, b Word) (Word, bool) {
	w, carry := sum(a, b, 0)
	return w, carry == 1
}

// Sub is a difference.
func Sub(a, b Word) (Word, bool) {
	// a - b is a + (2^128 - 1 - b) + 1, less 2^128: so the carry tells that nothing was borrowed.
	w, carry := sum(a, Not(b), 1)
	return w, carry == 0
}

func sum(a, b Word, carry uint64) (Word, uint64) {
	x, y := halves(a), halves(b)
	for i := range len(x) {
		x[i], carry = bits.Add64(x[i], y[i], carry)
	}
	return Word{Hi: x[1], Lo: x[0]}, carry
}

// halves has the lower half first, for that is how sums carry over.
func halves(a Word) [2]uint64 {
	return [2]uint64{a.Lo, a.Hi}
}

// Mul is a product.
func Mul(a, b Word) Word {
	// Hi times Hi is a multiple of 2^128, and so nothing, modulo.
	hi, lo := bits.Mul64(a.Lo, b.Lo)
	return Word{Hi: hi + a.Hi*b.Lo + a.Lo*b.Hi, Lo: lo}
}

// Div is a quotient, and what is left.
func Div(a Word, d uint64) (Word, uint64, bool) {
	if d == 0 {
		return Word{}, 0, false
	}
	// What is left of the upper half is below d, and so Div64 doesn't panic.
	lo, left := bits.Div64(a.Hi%d, a.Lo, d)
	return Word{Hi: a.Hi / d, Lo: lo}, left, true
}

func And(a, b Word) Word {
	return Word{Hi: a.Hi & b.Hi, Lo: a.Lo & b.Lo}
}

func Or(a, b Word) Word {
	return Word{Hi: a.Hi | b.Hi, Lo: a.Lo | b.Lo}
}

func Xor(a, b Word) Word {
	return Word{Hi: a.Hi ^ b.Hi, Lo: a.Lo ^ b.Lo}
}

func Not(a Word) Word {
	return Word{Hi: ^a.Hi, Lo: ^a.Lo}
}

// Shl is a word times a power of two.
func Shl(a Word, n int) Word {
	// This comes first because the least int has no int of the other sign.
	if n <= -width || n >= width {
		return Word{}
	}
	if n < 0 {
		return down(a, -n)
	}
	return up(a, n)
}

// Shr is a word by a power of two.
func Shr(a Word, n int) Word {
	// This comes first because the least int has no int of the other sign.
	if n <= -width || n >= width {
		return Word{}
	}
	if n < 0 {
		return up(a, -n)
	}
	return down(a, n)
}

// up needs an n from 0 to 127.
func up(a Word, n int) Word {
	if n >= half {
		return Word{Hi: a.Lo << (n - half)}
	}
	return Word{Hi: a.Hi<<n | a.Lo>>(half-n), Lo: a.Lo << n}
}

// down needs an n from 0 to 127.
func down(a Word, n int) Word {
	if n >= half {
		return Word{Lo: a.Hi >> (n - half)}
	}
	return Word{Hi: a.Hi >> n, Lo: a.Lo>>n | a.Hi<<(half-n)}
}

// Ones is a power of two, less one.
func Ones(n int) Word {
	if n < 1 {
		return Word{}
	}
	return down(Not(Word{}), width-min(n, width))
}

// Len is how many bits a word has.
func Len(a Word) int {
	if a.Hi == 0 {
		return bits.Len64(a.Lo)
	}
	return half + bits.Len64(a.Hi)
}

// Cmp holds words against each other.
func Cmp(a, b Word) int {
	if a == b {
		return 0
	}
	if _, below := Sub(a, b); below {
		return -1
	}
	return 1
}

// Bit tells whether a word has a bit.
func Bit(a Word, i int) bool {
	return i >= 0 && i < width && down(a, i).Lo&1 == 1
}
