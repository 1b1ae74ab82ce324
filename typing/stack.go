package typing

import (
	"slices"

	"shunter/api"
)

// stack is the widths of the values that lie there, the lowest first; behind them are noughts, so that stacks are held against each other as wholes.
type stack struct {
	count  int
	widths [api.MaxDeep]int
}

func (k stack) list() []int {
	return slices.Clone(k.widths[:k.count])
}

// take is the n highest, the lowest of them first, and the stack without them; it needs as many.
func (k stack) take(n int) ([]int, stack) {
	top := k.widths[k.count-n : k.count]
	taken := slices.Clone(top)
	clear(top)
	k.count -= n
	return taken, k
}

// put is the stack with one more, if there is room for it.
func (k stack) put(w int) (stack, bool) {
	if k.count == len(k.widths) {
		return stack{}, false
	}
	k.widths[k.count] = w
	k.count++
	return k, true
}
