package trie

import (
	"shunter/api"
	"shunter/vec"
	"shunter/word"
)

// node is a beginning. But for the root there is one only as long as a prefix begins with it.
type node struct {
	next [2]*node
	item *Item // nil, if the beginning is no prefix itself
}

// along tells of the nodes by which a row's bits lead, from the one at a depth on to the one at another, as far as there are any.
func (x *node) along(v api.Vec, from, to int, tell func(x *node)) {
	if x == nil {
		return
	}
	tell(x)
	if from < to {
		x.next[bit(v, from)].along(v, from+1, to, tell)
	}
}

// each tells of a node, and of all behind it, in the order of their beginnings.
func (x *node) each(tell func(x *node)) {
	if x == nil {
		return
	}
	tell(x)
	for _, next := range x.next {
		next.each(tell)
	}
}

// lay lays an item, or none, where a row's bits lead from one depth to another. What it answers is to stand in x's place: a node that wasn't there is made, and of one with which no prefix begins any more nothing stays.
func (x *node) lay(v api.Vec, from, to int, item *Item) *node {
	if x == nil {
		x = &node{}
	}
	if from < to {
		next := &x.next[bit(v, from)]
		*next = (*next).lay(v, from+1, to, item)
	} else {
		x.item = item
	}
	if *x == (node{}) {
		return nil
	}
	return x
}

// copy is a node, and all behind it, in new memory.
func (x *node) copy() *node {
	if x == nil {
		return nil
	}
	y := &node{}
	for i, next := range x.next {
		y.next[i] = next.copy()
	}
	if x.item != nil {
		item := *x.item
		y.item = &item
	}
	return y
}

// bit is a row's bit at a depth. The highest one is at 0, for prefixes count from there.
func bit(v api.Vec, depth int) int {
	if word.Bit(vec.Word(v), v.W-1-depth) {
		return 1
	}
	return 0
}
