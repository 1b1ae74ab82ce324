package typing_test

import (
	"reflect"
	"slices"
	"strconv"
	"strings"
	"testing"

	"shunter/api"
	"shunter/code"
	"shunter/ground"
	"shunter/typing"
)

// The model has the chapter's lines as texts: what lies on top, the highest last, and what is put there. In them x and y are whatever lies there, W and L what the instruction's thing has, A and B its numbers.

func lines() map[api.Op]string {
	l := map[api.Op]string{
		api.OpPush: "> W", api.OpField: "> W", api.OpMeta: "> W", api.OpParam: "> W", api.OpValid: "> 1",
		api.OpReg: "L > W", api.OpPutReg: "L W >",
		api.OpSlice: "x > A-B+1", api.OpCast: "x > A",
		api.OpCat: "x y > x+y", api.OpEq: "x x > 1", api.OpLess: "x x > 1",
		api.OpPutField: "W >", api.OpPutMeta: "W >", api.OpCount: "L >", api.OpMeter: "L > 1", api.OpJumpZero: "1 >",
	}
	for _, o := range []api.Op{api.OpNot, api.OpNeg, api.OpShl, api.OpShr} {
		l[o] = "x > x"
	}
	for _, o := range []api.Op{api.OpAdd, api.OpSub, api.OpAddSat, api.OpSubSat, api.OpAnd, api.OpOr, api.OpXor} {
		l[o] = "x x > x"
	}
	for _, o := range []api.Op{api.OpShow, api.OpHide, api.OpPushHead, api.OpPopHead, api.OpJump, api.OpJumpGone, api.OpStop} {
		l[o] = ">"
	}
	return l
}

// told is what Code tells.
type told struct {
	stacks [][]int
	at     int
	e      api.Errno
}

func tell(stacks [][]int, at int, e api.Errno) told {
	if len(stacks) == 0 {
		stacks = nil
	}
	for i, l := range stacks {
		if len(l) == 0 {
			stacks[i] = nil
		}
	}
	return told{stacks, at, e}
}

// model knows widths of its own, and asks no other layer.
type model struct {
	m      api.Image
	params []int
	lines  map[api.Op]string
}

func modelOf(m api.Image, params []int) model { return model{m, params, lines()} }

// fields are the widths of all slots' fields.
func fields(m api.Image) [][]int {
	var l [][]int
	for _, in := range m.Insts {
		var widths []int
		for _, f := range m.Headers[in.Header].Fields {
			widths = append(widths, f.W)
		}
		for range max(1, in.Depth) {
			l = append(l, widths)
		}
	}
	return l
}

func metas(m api.Image) []int {
	l := []int{8, 8, 8, 1, 8, 1, 16, 8}
	for _, f := range m.Metas {
		l = append(l, f.W)
	}
	return l
}

// thing is the W, and the L, of what an instruction is about.
func (x model) thing(in api.Ins) (int, int) {
	switch in.Op {
	case api.OpPush:
		return in.V.W, 0
	case api.OpField, api.OpPutField:
		return fields(x.m)[in.A][in.B], 0
	case api.OpMeta, api.OpPutMeta:
		return metas(x.m)[in.A], 0
	case api.OpParam:
		return x.params[in.A], 0
	case api.OpReg, api.OpPutReg:
		return x.m.Regs[in.A].W, x.m.Regs[in.A].Log
	case api.OpCount:
		return 0, x.m.Counters[in.A].Log
	case api.OpMeter:
		return 0, x.m.Meters[in.A].Log
	}
	return 0, 0
}

// behind is the stack behind an instruction, the highest last.
func (x model) behind(in api.Ins, stack []int) ([]int, api.Errno) {
	takes, puts, _ := strings.Cut(x.lines[in.Op], ">")
	w, l := x.thing(in)
	means := map[string]int{"1": 1, "W": w, "L": l, "A": in.A, "A-B+1": in.A - in.B + 1}
	want := strings.Fields(takes)
	if len(stack) < len(want) {
		return nil, api.ErrStack
	}
	if in.Op == api.OpPutMeta && (in.A == 0 || in.A == 6 || in.A == 7) {
		return nil, api.ErrKind
	}
	rest, top := stack[:len(stack)-len(want)], stack[len(stack)-len(want):]
	for i, s := range want {
		n, ok := means[s]
		if !ok {
			n = top[i]
			means[s] = n
		}
		if n != top[i] {
			return nil, api.ErrWidth
		}
	}
	if in.Op == api.OpSlice && means["x"] <= in.A {
		return nil, api.ErrWidth
	}
	means["x+y"] = means["x"] + means["y"]
	if in.Op == api.OpCat && means["x+y"] > 128 {
		return nil, api.ErrWidth
	}
	out := slices.Clone(rest)
	for _, s := range strings.Fields(puts) {
		out = append(out, means[s])
	}
	if len(out) > 8 {
		return nil, api.ErrStack
	}
	return out, api.OK
}

// goes are the places where an instruction leads.
func goes(in api.Ins, at int) []int {
	switch in.Op {
	case api.OpStop:
		return nil
	case api.OpJump:
		return []int{in.A}
	case api.OpJumpZero:
		return []int{at + 1, in.A}
	case api.OpJumpGone:
		return []int{at + 1, in.B}
	}
	return []int{at + 1}
}

// code is what Code tells of code that layer 10 lets be.
func (x model) code(l []api.Ins, want []int) told {
	stacks := make([]*[]int, len(l)+1)
	stacks[0] = &[]int{}
	for at, in := range l {
		if stacks[at] == nil {
			continue
		}
		out, e := x.behind(in, *stacks[at])
		if e != api.OK {
			return told{nil, at, e}
		}
		for _, to := range goes(in, at) {
			if stacks[to] != nil && !slices.Equal(*stacks[to], out) {
				return told{nil, at, api.ErrStack}
			}
			stacks[to] = &out
		}
		if in.Op == api.OpStop && !slices.Equal(out, want) {
			return told{nil, at, api.ErrStack}
		}
	}
	all := make([][]int, len(stacks))
	for at, k := range stacks {
		if k != nil && len(*k) > 0 {
			all[at] = *k
		}
	}
	if end := stacks[len(l)]; end != nil && !slices.Equal(*end, want) {
		return told{nil, len(l), api.ErrStack}
	}
	return told{all, 0, api.OK}
}

// Short words for instructions.

func vecOf(w int, lo uint64) api.Vec { return api.Vec{W: w, Lo: lo} }

func push(w int) api.Ins { return api.Ins{V: vecOf(w, 1)} }

func op(o api.Op, n ...int) api.Ins {
	n = append(n, 0, 0)
	return api.Ins{Op: o, A: n[0], B: n[1]}
}

func pushes(widths ...int) []api.Ins {
	var l []api.Ins
	for _, w := range widths {
		l = append(l, push(w))
	}
	return l
}

func of(l ...api.Ins) []api.Ins { return l }

func stops(n int) []api.Ins { return slices.Repeat(of(op(api.OpStop)), n) }

// texts are instructions in words, for what a test tells.
func texts(l []api.Ins) string {
	var s []string
	for i, x := range l {
		s = append(s, strconv.Itoa(i)+": "+code.Text(x))
	}
	return strings.Join(s, "; ")
}

// right has no flaw, and the units: registers of 1 bit by 1, of 128 by 8; counters by 1, 8, 4; meters by 1, 8. Slots: eth 0 (48, 48, 16), tags 1 to 3 (3, 1, 12, 16), ip 4 and 6 (4, 4, 8, 16), odd 5 (8, 16, 8, 128, 16). Its own metadata: 8, 128, 1.
func right() api.Image { return ground.Image() }

// fitting is right, and its code fits together, with each operation in it.
func fitting() api.Image {
	return ground.Changed(func(m *api.Image) {
		m.Actions[2].Code = everyOp()
		m.Actions[5] = api.Action{Name: "five", Params: []int{16, 128}, Code: of(
			op(api.OpJumpGone, 4, 4), op(api.OpField, 4, 2), op(api.OpPutMeta, 1), op(api.OpStop),
			op(api.OpParam), op(api.OpPutField, 4, 3), op(api.OpParam, 1), op(api.OpPutMeta, 9))}
		m.Egress[1].Code = of(op(api.OpMeta, api.MetaAgain), op(api.OpNot))
		m.Egress = append(m.Egress, api.Node{Kind: api.NodeIf, Code: of(push(1), op(api.OpStop)), Yes: 5, No: 5})
	})
}

// everyOp has each operation, and fits together without parameters.
func everyOp() []api.Ins {
	return of(
		op(api.OpMeta, 9), op(api.OpField, 5, 3), op(api.OpEq), op(api.OpNot), // 1
		op(api.OpReg, 0), op(api.OpJumpZero, 9), // none
		push(1), push(1), op(api.OpPutReg, 0),
		op(api.OpField, 1, 0), op(api.OpNeg), op(api.OpShl, 128), op(api.OpField, 2, 1), op(api.OpCat), op(api.OpShr, 2), // 4
		op(api.OpField, 4, 0), op(api.OpAdd), op(api.OpField, 4, 1), op(api.OpSub), push(4), op(api.OpAddSat), push(4), op(api.OpSubSat), push(4), op(api.OpAnd), push(4), op(api.OpOr), push(4), op(api.OpXor), // 4
		op(api.OpCount, 2), op(api.OpValid, 6), op(api.OpMeter, 0), op(api.OpPutMeta, 10),
		op(api.OpMeta, 6), op(api.OpSlice, 15, 8), op(api.OpMeta, 0), op(api.OpLess), op(api.OpCast, 16), op(api.OpPutField, 5, 4),
		op(api.OpShow, 0), op(api.OpHide, 0), op(api.OpPushHead, 1, 4), op(api.OpPopHead, 3, 1),
		op(api.OpJumpGone, 4, 46), op(api.OpJump, 46), op(api.OpAdd), op(api.OpStop), op(api.OpAdd),
	)
}

// checked is what a Wrong tells; the zero one, if there is none.
func checked(t *testing.T, m api.Image) typing.Wrong {
	t.Helper()
	err := typing.Check(m)
	if err == nil {
		return typing.Wrong{}
	}
	w, ok := err.(*typing.Wrong)
	if !ok || w == nil || w.E == api.OK {
		t.Fatalf("Check = %#v", err)
	}
	if got, ok := typing.Why(err); got != *w || !ok {
		t.Errorf("Why(%v) = %v, %t", *w, got, ok)
	}
	return *w
}

func is(t *testing.T, got, want any, what ...any) {
	t.Helper()
	if !reflect.DeepEqual(got, want) {
		t.Fatalf("%v = %v; want %v", what, got, want)
	}
}
