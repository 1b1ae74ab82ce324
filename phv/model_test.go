package phv_test

import (
	"fmt"
	"math/big"
	"reflect"
	"slices"
	"strings"
	"testing"

	"shunter/api"
	"shunter/phv"
)

// place is a slot as the model has it: rows are texts of their bits, the highest first.
type place struct {
	there  bool
	fields []string
	varies string
}

// model does what the chapter says, in texts of bits, and asks no other layer.
type model struct {
	kinds  []api.Header // by slots
	stacks [][]int      // by instances: a stack's slots
	places []place
	next   []int
	metas  []string
}

func modelOf(m api.Image) *model {
	x := &model{next: make([]int, len(m.Insts))}
	for _, in := range m.Insts {
		var slots []int
		for range max(1, in.Depth) {
			slots = append(slots, len(x.kinds))
			x.kinds = append(x.kinds, m.Headers[in.Header])
		}
		if in.Depth == 0 {
			slots = nil
		}
		x.stacks = append(x.stacks, slots)
	}
	for _, h := range x.kinds {
		x.places = append(x.places, gone(h))
	}
	for _, w := range []int{8, 8, 8, 1, 8, 1, 16, 8} {
		x.metas = append(x.metas, noughts(w))
	}
	for _, f := range m.Metas {
		x.metas = append(x.metas, noughts(f.W))
	}
	return x
}

func gone(h api.Header) place {
	var s place
	for _, f := range h.Fields {
		s.fields = append(s.fields, noughts(f.W))
	}
	return s
}

func noughts(w int) string { return strings.Repeat("0", w) }

// answer is what a call tells, whichever it is.
type answer struct {
	bits string
	n    int
	e    api.Errno
}

func (x *model) field(slot, f int) *string {
	if slot < 0 || slot >= len(x.places) || f < 0 || f >= len(x.places[slot].fields) {
		return nil
	}
	return &x.places[slot].fields[f]
}

func (x *model) get(slot, f int) answer {
	s := x.field(slot, f)
	if s == nil {
		return answer{e: api.ErrNone}
	}
	if !x.places[slot].there {
		return answer{e: api.ErrValid}
	}
	return answer{bits: *s}
}

func (x *model) put(slot, f int, v api.Vec) answer {
	if a := x.get(slot, f); a.e != api.OK {
		return answer{e: a.e}
	}
	return laid(x.field(slot, f), v)
}

// laid has a row be v, if that is one of its width.
func laid(s *string, v api.Vec) answer {
	text := digits(v)
	if v.W != len(*s) || len(text) != v.W {
		return answer{e: api.ErrWidth}
	}
	*s = text
	return answer{}
}

func (x *model) meta(i int) answer {
	if i < 0 || i >= len(x.metas) {
		return answer{e: api.ErrNone}
	}
	return answer{bits: x.metas[i]}
}

func (x *model) putMeta(i int, v api.Vec) answer {
	if i < 0 || i >= len(x.metas) {
		return answer{e: api.ErrNone}
	}
	if i == 0 || i == 6 || i == 7 {
		return answer{e: api.ErrKind}
	}
	return laid(&x.metas[i], v)
}

func (x *model) begin(in, size, round int) answer {
	if in < 0 || in > 255 || size < 0 || size > 65535 || round < 0 || round > 255 {
		return answer{e: api.ErrRange}
	}
	x.metas[0], x.metas[6], x.metas[7] = fmt.Sprintf("%08b", in), fmt.Sprintf("%016b", size), fmt.Sprintf("%08b", round)
	return answer{}
}

func (x *model) show(slot int) answer {
	if slot < 0 || slot >= len(x.places) {
		return answer{e: api.ErrNone}
	}
	x.places[slot].there = true
	return answer{}
}

func (x *model) hide(slot int) answer {
	if slot < 0 || slot >= len(x.places) {
		return answer{e: api.ErrNone}
	}
	x.places[slot] = gone(x.kinds[slot])
	return answer{}
}

// moved has each slot of a stack be what the one by so many places ahead of it was (behind it, of a number below 0).
func (x *model) moved(inst, n, by int) answer {
	if inst < 0 || inst >= len(x.stacks) || len(x.stacks[inst]) == 0 {
		return answer{e: api.ErrNone}
	}
	if n < 1 || n > 4 {
		return answer{e: api.ErrRange}
	}
	slots := x.stacks[inst]
	var was []place
	for _, slot := range slots {
		was = append(was, x.places[slot])
	}
	for i, slot := range slots {
		x.places[slot] = gone(x.kinds[slot])
		if i-by >= 0 && i-by < len(was) {
			x.places[slot] = was[i-by]
			x.places[slot].fields = slices.Clone(was[i-by].fields)
		}
	}
	return answer{}
}

func (x *model) push(inst, n int) answer { return x.moved(inst, n, n) }

func (x *model) pop(inst, n int) answer { return x.moved(inst, n, -n) }

func (x *model) take(slot int, b []byte) answer {
	if slot < 0 || slot >= len(x.places) {
		return answer{e: api.ErrNone}
	}
	h, s := x.kinds[slot], place{there: true}
	left := spread(b)
	for _, f := range h.Fields {
		if len(left) < f.W {
			return answer{e: api.ErrEnd}
		}
		s.fields, left = append(s.fields, left[:f.W]), left[f.W:]
	}
	if h.Var > 0 {
		n := h.Mul*int(numberOf(s.fields[h.By]).Int64()) - h.Sub
		if n < 0 || n > h.Var {
			return answer{e: api.ErrForm}
		}
		if len(left) < 8*n {
			return answer{e: api.ErrEnd}
		}
		s.varies, left = left[:8*n], left[8*n:]
	}
	x.places[slot] = s
	return answer{n: len(b) - len(left)/8}
}

func (x *model) another(inst int) answer {
	if inst < 0 || inst >= len(x.stacks) || len(x.stacks[inst]) == 0 {
		return answer{e: api.ErrNone}
	}
	if x.next[inst] == len(x.stacks[inst]) {
		return answer{e: api.ErrFull}
	}
	x.next[inst]++
	return answer{n: x.stacks[inst][x.next[inst]-1]}
}

func (x *model) bytes(slot int) answer {
	if slot < 0 || slot >= len(x.places) {
		return answer{e: api.ErrNone}
	}
	if !x.places[slot].there {
		return answer{e: api.ErrValid}
	}
	return answer{bits: strings.Join(x.places[slot].fields, "") + x.places[slot].varies}
}

// digits are a row's bits; of a number that its width doesn't hold more than that.
func digits(v api.Vec) string {
	n := new(big.Int).SetUint64(v.Hi)
	n.Add(n.Lsh(n, 64), new(big.Int).SetUint64(v.Lo))
	if v.W < 1 || v.W > 128 {
		return ""
	}
	return fmt.Sprintf("%0*b", v.W, n)
}

func numberOf(bits string) *big.Int {
	n, _ := new(big.Int).SetString(bits, 2)
	return n
}

// rowOf is the row of these bits.
func rowOf(bits string) api.Vec {
	n := numberOf(bits)
	lo := new(big.Int).And(n, new(big.Int).SetUint64(1<<64-1))
	return api.Vec{W: len(bits), Hi: n.Rsh(n, 64).Uint64(), Lo: lo.Uint64()}
}

// spread are the bits of bytes.
func spread(b []byte) string {
	var s strings.Builder
	for _, x := range b {
		fmt.Fprintf(&s, "%08b", x)
	}
	return s.String()
}

// bytesOf are the bytes of an even number of digits of the base 16.
func bytesOf(s string) []byte {
	var b []byte
	s = strings.ReplaceAll(s, " ", "")
	for i := 0; i < len(s); i += 2 {
		var x byte
		fmt.Sscanf(s[i:i+2], "%02x", &x)
		b = append(b, x)
	}
	return b
}

func rowsOf(bits []string) []api.Vec {
	var l []api.Vec
	for _, s := range bits {
		l = append(l, rowOf(s))
	}
	return l
}

// stands holds all that can be told of a packet's headers against the model.
func stands(t *testing.T, p *phv.Phv, x *model, behind ...any) {
	t.Helper()
	if len(p.Valid) != len(x.places) || len(p.Fields) != len(x.places) || len(p.Vars) != len(x.places) || !slices.Equal(p.Next, x.next) || !slices.Equal(p.Metas, rowsOf(x.metas)) {
		t.Fatalf("%v: %d, %d, %d slots, %v taken, metadata %v; want %d slots, %v, %v", behind, len(p.Valid), len(p.Fields), len(p.Vars), p.Next, p.Metas, len(x.places), x.next, x.metas)
	}
	for i, s := range x.places {
		if p.Valid[i] != s.there || p.Has(i) != s.there || !slices.Equal(p.Fields[i], rowsOf(s.fields)) || spread(p.Vars[i]) != s.varies {
			t.Fatalf("%v: the slot %d is %t (Has: %t), %v, %x; want %v", behind, i, p.Valid[i], p.Has(i), p.Fields[i], p.Vars[i], s)
		}
	}
}

func ofRow(v api.Vec, e api.Errno) answer {
	if v == (api.Vec{}) {
		return answer{e: e}
	}
	return answer{bits: digits(v), e: e}
}

func ofBytes(b []byte, e api.Errno) answer { return answer{bits: spread(b), e: e} }

func ofNumber(n int, e api.Errno) answer { return answer{n: n, e: e} }

func ofError(e api.Errno) answer { return answer{e: e} }

func is(t *testing.T, got, want any, what ...any) {
	t.Helper()
	if !reflect.DeepEqual(got, want) {
		t.Fatalf("%v = %v; want %v", what, got, want)
	}
}
