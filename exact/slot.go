package exact

import (
	"shunter/api"
)

const (
	// With two for each row that may be put one is always free, and so a search ends; and rows seldom stand in each other's way.
	slotsEach = 2

	// An odd number of mixed bits: rows that are near to one another get homes far apart.
	spread = 0x9e3779b97f4a7c15
)

// find is the slot in which a row lies, or else the free one into which it may be put.
func (m *Map) find(key api.Vec) (int, bool) {
	at := m.round(m.home(key), func(at int) bool {
		return m.slots[at].Key == key || m.free(at)
	})
	return at, m.slots[at].Key == key
}

// empty takes out what lies in a slot. A search ends at a free slot, so the gap is closed by each row behind that would be searched for across it, and is then where that row was.
func (m *Map) empty(gap int) {
	m.round(m.next(gap), func(at int) bool {
		if m.free(at) {
			return true
		}
		if m.ahead(m.home(m.slots[at].Key), at) >= m.ahead(gap, at) {
			m.slots[gap] = m.slots[at]
			gap = at
		}
		return false
	})
	m.slots[gap] = Item{}
}

// round goes over the slots, from one on and round, to the first at which it is told to end. There must be one.
func (m *Map) round(at int, ends func(at int) bool) int {
	for !ends(at) {
		at = m.next(at)
	}
	return at
}

func (m *Map) next(at int) int {
	return (at + 1) % len(m.slots)
}

// ahead is how many slots further on, and round, one lies.
func (m *Map) ahead(from, to int) int {
	return (to - from + len(m.slots)) % len(m.slots)
}

func (m *Map) free(at int) bool {
	return m.slots[at].Key == api.Vec{}
}

// home is the slot from which on a row is searched for.
func (m *Map) home(key api.Vec) int {
	x := uint64(key.W)
	for _, part := range [...]uint64{key.Hi, key.Lo} {
		x = (x ^ part) * spread
		x ^= x >> 32
	}
	return int(x % uint64(len(m.slots)))
}
