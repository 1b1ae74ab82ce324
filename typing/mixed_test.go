package typing_test

import (
	"slices"
	"testing"

	"shunter/api"
	"shunter/code"
	"shunter/ground"
	"shunter/image"
	"shunter/phv"
	"shunter/typing"
	"shunter/vec"
	"shunter/word"
)

// someOf are instructions of all operations but jumps, about each thing that an image has.
func someOf(m api.Image, params []int) []api.Ins {
	l := of(op(api.OpNot), op(api.OpNeg), op(api.OpStop))
	for _, w := range []int{1, 2, 3, 4, 8, 16, 48, 64, 127, 128} {
		l = append(l, push(w), op(api.OpShl, w), op(api.OpShr, w-1), op(api.OpCast, w), op(api.OpSlice, w-1, 0), op(api.OpSlice, w-1, w/2))
	}
	for o := api.OpAdd; o <= api.OpLess; o++ {
		l = append(l, op(o))
	}
	for slot, widths := range fields(m) {
		l = append(l, op(api.OpValid, slot), op(api.OpShow, slot), op(api.OpHide, slot))
		for f := range widths {
			l = append(l, op(api.OpField, slot, f), op(api.OpPutField, slot, f))
		}
	}
	for i := range metas(m) {
		l = append(l, op(api.OpMeta, i), op(api.OpPutMeta, i))
	}
	for i := range params {
		l = append(l, op(api.OpParam, i))
	}
	for i := range m.Regs {
		l = append(l, op(api.OpReg, i), op(api.OpPutReg, i))
	}
	for i := range m.Counters {
		l = append(l, op(api.OpCount, i))
	}
	for i := range m.Meters {
		l = append(l, op(api.OpMeter, i))
	}
	for i, in := range m.Insts {
		if in.Depth > 0 {
			l = append(l, op(api.OpPushHead, i, 1), op(api.OpPopHead, i, 4))
		}
	}
	return l
}

func below(seed *uint64, n int) int { return int(ground.Number(seed) % uint64(n)) }

// maker makes code that fits together, block by block.
type maker struct {
	seed  *uint64
	x     model
	pool  [][]api.Ins // by operations
	want  []int
	l     []api.Ins
	stack []int
}

func makerOf(seed *uint64, m api.Image, params, want []int) *maker {
	k := &maker{seed: seed, x: modelOf(m, params), want: want}
	byOp := make([][]api.Ins, api.Ops)
	for _, x := range someOf(m, params) {
		byOp[x.Op] = append(byOp[x.Op], x)
	}
	for _, l := range byOp {
		if len(l) > 0 {
			k.pool = append(k.pool, l)
		}
	}
	return k
}

func (k *maker) any() api.Ins {
	l := k.pool[below(k.seed, len(k.pool))]
	return l[below(k.seed, len(l))]
}

func (k *maker) add(x api.Ins) {
	k.l = append(k.l, x)
	k.stack, _ = k.x.behind(x, k.stack)
}

// jump adds one whose place is told later, by what is answered. (Of a truth that lies there it may be a jump-zero.)
func (k *maker) jump() func() {
	at, slots := len(k.l), len(fields(k.x.m))
	switch {
	case len(k.stack) > 0 && k.stack[len(k.stack)-1] == 1:
		k.add(op(api.OpJumpZero))
	case slots > 0:
		k.add(op(api.OpJumpGone, below(k.seed, slots)))
	default:
		k.come(append(slices.Clone(k.stack[:min(7, len(k.stack))]), 1))
		at = len(k.l)
		k.add(op(api.OpJumpZero))
	}
	return func() {
		if k.l[at].Op == api.OpJumpGone {
			k.l[at].B = len(k.l)
		} else {
			k.l[at].A = len(k.l)
		}
	}
}

// come brings the stack to another one.
func (k *maker) come(stack []int) {
	for len(k.stack) > len(stack) || !slices.Equal(k.stack, stack[:len(k.stack)]) {
		if k.stack[len(k.stack)-1] != 8 {
			k.add(op(api.OpCast, 8))
		}
		k.add(op(api.OpPutMeta, 1))
	}
	k.l = append(k.l, pushes(stack[len(k.stack):]...)...)
	k.stack = slices.Clone(stack)
}

// plain adds an instruction that fits, or none.
func (k *maker) plain() {
	for range 100 {
		x := k.any()
		if _, e := k.x.behind(x, k.stack); e == api.OK && x.Op != api.OpStop {
			k.add(x)
			return
		}
	}
}

func (k *maker) block(n, deep int) {
	for range n {
		if deep == 0 || below(k.seed, 5) > 0 {
			k.plain()
			continue
		}
		to := k.jump()
		was := slices.Clone(k.stack)
		switch below(k.seed, 3) {
		case 0: // some more, or not
			k.block(n/2, deep-1)
			k.come(was)
			to()
		case 1: // an end
			k.block(n/2, deep-1)
			k.come(k.want)
			k.add(op(api.OpStop))
			k.stack = was
			to()
		default: // this, or that
			k.block(n/2, deep-1)
			both, at := slices.Clone(k.stack), len(k.l)
			k.add(op(api.OpJump))
			to()
			k.stack = was
			k.block(n/2, deep-1)
			k.come(both)
			k.l[at].A = len(k.l)
		}
	}
}

// made is code of at most 64 instructions that fits together.
func made(seed *uint64, m api.Image, params, want []int) []api.Ins {
	for {
		k := makerOf(seed, m, params, want)
		k.block(below(seed, 30), 3)
		k.come(want)
		if len(k.l) <= 64 {
			return k.l
		}
	}
}

// mixed is code that layer 10 lets be, and that mostly doesn't fit together.
func mixed(seed *uint64, m api.Image, params, want []int) []api.Ins {
	l := made(seed, m, params, want)
	k := makerOf(seed, m, params, want)
	for range min(len(l), 1+below(seed, 2)) {
		l[below(seed, len(l))] = k.any()
	}
	return l
}

func wants() [][]int {
	return [][]int{nil, {1}, nil, {1}, {8}, {8, 1}, {128, 16, 1}, {1, 2, 3, 4, 5, 6, 7, 8}}
}

// Promises 14.1 and 14.3: code is held against the model, and what fits is done.
func TestMixedCode(t *testing.T) {
	images := []api.Image{right(), ground.LeastImage(), fitting(), ground.Changed(func(m *api.Image) {
		m.Regs[1] = api.Reg{Name: "two", W: 8, Log: 4}
		m.Metas[1].W = 4
	})}
	counts := map[api.Errno]int{}
	long := 0
	for i := range 3000 {
		seed := uint64(i)
		m := images[i%len(images)]
		params := []int{1, 8, 16, 128, 4, 48, 3, 12}[:below(&seed, 9)]
		want := wants()[below(&seed, len(wants()))]
		l := made(&seed, m, params, want)
		if i%2 == 0 {
			l = mixed(&seed, m, params, want)
		}
		expect := modelOf(m, params).code(l, want)
		got := tell(typing.Code(m, params, l, want))
		is(t, got, expect, i, params, texts(l), "want", want)
		counts[got.e]++
		if i%2 == 1 {
			is(t, got.e, api.OK, i, params, texts(l), "want", want)
		}
		if got.e == api.OK {
			if len(l) > 30 {
				long++
			}
			for range 3 {
				done(t, &seed, m, params, l, got.stacks)
			}
		}
	}
	if counts[api.OK] < 1500 || counts[api.ErrStack] < 700 || counts[api.ErrWidth] < 300 || counts[api.ErrKind] < 8 || long < 300 {
		t.Error("too few of a kind:", counts, long)
	}
}

// doer does code on rows, and asks that each row is as wide as was told.
type doer struct {
	t      *testing.T
	seed   *uint64
	m      api.Image
	params []int
	p      *phv.Phv
	rows   []api.Vec
}

func (d *doer) row(w int) api.Vec {
	v, _ := vec.Cut(w, word.Word{Hi: ground.Number(d.seed), Lo: ground.Number(d.seed)})
	return v
}

func (d *doer) ok(e api.Errno, x api.Ins) {
	d.t.Helper()
	if e != api.OK {
		d.t.Fatalf("%s answers %d on %v", code.Text(x), e, d.rows)
	}
}

func (d *doer) put(v api.Vec, e api.Errno, x api.Ins) {
	d.t.Helper()
	d.ok(e, x)
	d.rows = append(d.rows, v)
}

func (d *doer) take() api.Vec {
	v := d.rows[len(d.rows)-1]
	d.rows = d.rows[:len(d.rows)-1]
	return v
}

// cell asks for the number of one of 2 to the log cells.
func (d *doer) cell(log int, x api.Ins) {
	d.t.Helper()
	if v := d.take(); v.W != log || v.Hi != 0 || v.Lo >= 1<<log {
		d.t.Fatalf("%s of the cell %v", code.Text(x), v)
	}
}

// begin has all slots there, with anything in them.
func (d *doer) begin() {
	for slot, widths := range fields(d.m) {
		d.p.Show(slot)
		for f, w := range widths {
			d.p.Put(slot, f, d.row(w))
		}
	}
	for i := range metas(d.m) {
		d.p.PutMeta(i, d.row(metas(d.m)[i]))
	}
}

// one does an instruction, and tells where it goes.
func (d *doer) one(at int, x api.Ins) int {
	d.t.Helper()
	switch x.Op {
	case api.OpPush:
		d.put(x.V, api.OK, x)
	case api.OpField:
		v, e := d.p.Get(x.A, x.B)
		d.put(v, e, x)
	case api.OpMeta:
		v, e := d.p.Meta(x.A)
		d.put(v, e, x)
	case api.OpParam:
		d.put(d.row(d.params[x.A]), api.OK, x)
	case api.OpValid:
		d.put(vec.Truth(below(d.seed, 2) == 0), api.OK, x)
	case api.OpReg, api.OpPutReg, api.OpCount, api.OpMeter:
		d.unit(x)
	case api.OpPutField:
		d.ok(d.p.Put(x.A, x.B, d.take()), x)
	case api.OpPutMeta:
		d.ok(d.p.PutMeta(x.A, d.take()), x)
	case api.OpShow, api.OpHide, api.OpPushHead, api.OpPopHead: // which slots are there is no matter of this layer
	case api.OpJump:
		return x.A
	case api.OpJumpZero:
		v := d.take()
		if v.W != 1 {
			d.t.Fatalf("%s of %v", code.Text(x), v)
		}
		if v.Lo == 0 {
			return x.A
		}
	case api.OpJumpGone:
		if below(d.seed, 2) == 0 {
			return x.B
		}
	case api.OpStop:
		return -1
	default:
		d.number(x)
	}
	return at + 1
}

// unit asks for the cell of a unit.
func (d *doer) unit(x api.Ins) {
	d.t.Helper()
	switch x.Op {
	case api.OpReg:
		d.cell(d.m.Regs[x.A].Log, x)
		d.put(d.row(d.m.Regs[x.A].W), api.OK, x)
	case api.OpPutReg:
		if v := d.take(); v.W != d.m.Regs[x.A].W {
			d.t.Fatalf("%s of %v", code.Text(x), v)
		}
		d.cell(d.m.Regs[x.A].Log, x)
	case api.OpCount:
		d.cell(d.m.Counters[x.A].Log, x)
	case api.OpMeter:
		d.cell(d.m.Meters[x.A].Log, x)
		d.put(vec.Truth(below(d.seed, 2) == 0), api.OK, x)
	}
}

// number does what layer 2 does.
func (d *doer) number(x api.Ins) {
	d.t.Helper()
	b := d.take()
	var v api.Vec
	var e api.Errno
	switch x.Op {
	case api.OpNot:
		v, e = vec.Not(b)
	case api.OpNeg:
		v, e = vec.Neg(b)
	case api.OpShl:
		v, e = vec.Shl(b, x.A)
	case api.OpShr:
		v, e = vec.Shr(b, x.A)
	case api.OpSlice:
		v, e = vec.Slice(b, x.A, x.B)
	case api.OpCast:
		v, e = vec.Cast(b, x.A)
	default:
		v, e = pairs()[x.Op](d.take(), b)
	}
	d.put(v, e, x)
}

func pairs() map[api.Op]func(a, b api.Vec) (api.Vec, api.Errno) {
	return map[api.Op]func(a, b api.Vec) (api.Vec, api.Errno){
		api.OpAdd: vec.Add, api.OpSub: vec.Sub, api.OpAddSat: vec.AddSat, api.OpSubSat: vec.SubSat, api.OpAnd: vec.And, api.OpOr: vec.Or, api.OpXor: vec.Xor, api.OpCat: vec.Cat, api.OpEq: vec.Eq, api.OpLess: vec.Less,
	}
}

// done does code from its first instruction to where it ends.
func done(t *testing.T, seed *uint64, m api.Image, params []int, l []api.Ins, stacks [][]int) {
	t.Helper()
	d := &doer{t, seed, m, params, phv.New(m), nil}
	d.begin()
	for at := 0; at >= 0; at = d.one(at, l[at]) {
		var widths []int
		for _, v := range d.rows {
			widths = append(widths, v.W)
		}
		is(t, widths, stacks[at], "the widths at", at, "of", texts(l))
		if at == len(l) {
			return
		}
	}
}

// Promise 14.3 by hand: each operation, on rows.
func TestEveryOpIsDone(t *testing.T) {
	m := fitting()
	for _, a := range m.Actions {
		stacks, _, e := typing.Code(m, a.Params, a.Code, nil)
		is(t, e, api.OK, a.Name)
		for seed := range uint64(50) {
			done(t, &seed, m, a.Params, a.Code, tell(stacks, 0, e).stacks)
		}
	}
}

// All code of a few instructions, of up to four of them.
func TestShortCode(t *testing.T) {
	m := ground.LeastImage()
	m.Headers = []api.Header{{Name: "h", Fields: []api.Field{{Name: "f", W: 8}}}}
	m.Insts = []api.Inst{{Name: "h"}}
	m.Regs = []api.Reg{{Name: "r", W: 8, Log: 1}}
	x := modelOf(m, nil)
	fixed := of(push(1), push(8), op(api.OpAdd), op(api.OpEq), op(api.OpCast, 1), op(api.OpPutField), op(api.OpPutMeta, 3), op(api.OpPutMeta, 0), op(api.OpReg), op(api.OpPutReg), op(api.OpStop))
	var over func(l []api.Ins, n int)
	over = func(l []api.Ins, n int) {
		if len(l) == n {
			for _, want := range [][]int{nil, {1}} {
				is(t, tell(typing.Code(m, nil, l, want)), x.code(l, want), texts(l), "want", want)
			}
			return
		}
		for _, in := range fixed {
			over(append(l, in), n)
		}
		for to := len(l) + 1; to <= n; to++ {
			over(append(l, op(api.OpJump, to)), n)
			over(append(l, op(api.OpJumpZero, to)), n)
			over(append(l, op(api.OpJumpGone, 0, to)), n)
		}
	}
	for n := range 5 {
		over(nil, n)
	}
}

// What is made here may be; what may not be is asked elsewhere.
func TestMixedMayBe(t *testing.T) {
	for i := range 500 {
		seed := uint64(i)
		if e := image.Code(right(), nil, mixed(&seed, right(), nil, wants()[i%8])); e != api.OK {
			t.Fatal(i, e)
		}
	}
}
