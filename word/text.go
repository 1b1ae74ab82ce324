package word

import (
	"math/bits"

	"shunter/api"
)

const (
	digits  = "0123456789abcdef"
	maxBase = len(digits)
)

func mayBase(base int) bool {
	return base >= 2 && base <= maxBase
}

// Text is a word's digits.
func Text(a Word, base int) string {
	if !mayBase(base) {
		return ""
	}
	// The base 2 has the most digits: one a bit.
	var l [width]byte
	at := len(l)
	for {
		rest, d, _ := Div(a, uint64(base))
		at--
		l[at] = digits[d]
		if rest == (Word{}) {
			return string(l[at:])
		}
		a = rest
	}
}

// Parse is the word of digits.
func Parse(s string, base int) (Word, api.Errno) {
	if !mayBase(base) {
		return Word{}, api.ErrArg
	}
	if s == "" {
		return Word{}, api.ErrEnd
	}
	var a Word
	above := false
	for i := range len(s) {
		d := digit(s[i])
		if d >= base {
			return Word{}, api.ErrForm
		}
		// A number that is too great doesn't end the loop: ErrForm, of a byte behind, comes first.
		next, over := behind(a, base, d)
		a, above = next, above || over
	}
	if above {
		return Word{}, api.ErrRange
	}
	return a, api.OK
}

// digit is what a byte stands for; of a byte that is no digit, more than any base has.
func digit(c byte) int {
	switch {
	case c >= '0' && c <= '9':
		return int(c - '0')
	case c >= 'a' && c <= 'f':
		return int(c-'a') + 10
	case c >= 'A' && c <= 'F':
		return int(c-'A') + 10
	}
	return maxBase
}

// behind is a word with one more digit, modulo, and whether that is 2^128 or more. Mul doesn't tell the latter.
func behind(a Word, base, d int) (Word, bool) {
	carry, lo := bits.Mul64(a.Lo, uint64(base))
	over, hi := bits.Mul64(a.Hi, uint64(base))
	product, first := Add(Word{Hi: hi, Lo: lo}, Word{Hi: carry})
	w, second := Add(product, Word{Lo: uint64(d)})
	return w, over != 0 || first || second
}
