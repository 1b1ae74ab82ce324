package vec

import (
	"shunter/api"
	"shunter/word"
)

// unlike is OK, if both rows may be and are of one width.
func unlike(a, b api.Vec) api.Errno {
	if !May(a) || !May(b) {
		return api.ErrArg
	}
	if a.W != b.W {
		return api.ErrWidth
	}
	return api.OK
}

// pair does all that is done to two rows of one width, so that their faults are told in one place.
func pair(a, b api.Vec, do func(x, y word.Word) api.Vec) (api.Vec, api.Errno) {
	if e := unlike(a, b); e != api.OK {
		return api.Vec{}, e
	}
	return do(Word(a), Word(b)), api.OK
}

// Add is a sum.
func Add(a, b api.Vec) (api.Vec, api.Errno) {
	return pair(a, b, func(x, y word.Word) api.Vec {
		sum, _ := word.Add(x, y)
		return lowest(a.W, sum)
	})
}

// Sub is a difference.
func Sub(a, b api.Vec) (api.Vec, api.Errno) {
	return pair(a, b, func(x, y word.Word) api.Vec {
		difference, _ := word.Sub(x, y)
		return lowest(a.W, difference)
	})
}

// AddSat is a sum that stays at the greatest number.
func AddSat(a, b api.Vec) (api.Vec, api.Errno) {
	return pair(a, b, func(x, y word.Word) api.Vec {
		// A sum of 128 bits may be too great for a word, too: its own bits don't tell.
		sum, over := word.Add(x, y)
		if over || word.Len(sum) > a.W {
			sum = word.Ones(a.W)
		}
		return lowest(a.W, sum)
	})
}

// SubSat is a difference that stays at 0.
func SubSat(a, b api.Vec) (api.Vec, api.Errno) {
	return pair(a, b, func(x, y word.Word) api.Vec {
		difference, below := word.Sub(x, y)
		if below {
			difference = word.Word{}
		}
		return lowest(a.W, difference)
	})
}

// And has the bits that both have.
func And(a, b api.Vec) (api.Vec, api.Errno) {
	return bitwise(a, b, word.And)
}

// Or has the bits that one of them has.
func Or(a, b api.Vec) (api.Vec, api.Errno) {
	return bitwise(a, b, word.Or)
}

// Xor has the bits that just one of them has.
func Xor(a, b api.Vec) (api.Vec, api.Errno) {
	return bitwise(a, b, word.Xor)
}

func bitwise(a, b api.Vec, do func(x, y word.Word) word.Word) (api.Vec, api.Errno) {
	return pair(a, b, func(x, y word.Word) api.Vec { return lowest(a.W, do(x, y)) })
}

// Eq is the truth of whether they are one number.
func Eq(a, b api.Vec) (api.Vec, api.Errno) {
	return pair(a, b, func(x, y word.Word) api.Vec { return Truth(x == y) })
}

// Less is the truth of whether the first number is below the second.
func Less(a, b api.Vec) (api.Vec, api.Errno) {
	return pair(a, b, func(x, y word.Word) api.Vec { return Truth(word.Cmp(x, y) < 0) })
}

// Meets tells whether a row has the bits that a value has under a mask.
func Meets(a, value, mask api.Vec) bool {
	if unlike(a, value) != api.OK || unlike(a, mask) != api.OK {
		return false
	}
	other := word.Xor(Word(a), Word(value))
	return word.And(other, Word(mask)) == word.Word{}
}

// Within tells whether a row lies between two others.
func Within(a, lo, hi api.Vec) bool {
	if unlike(a, lo) != api.OK || unlike(a, hi) != api.OK {
		return false
	}
	return word.Cmp(Word(lo), Word(a)) <= 0 && word.Cmp(Word(a), Word(hi)) <= 0
}
