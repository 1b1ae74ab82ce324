package image_test

import (
	"math"
	"reflect"
	"slices"
	"strings"
	"testing"

	"shunter/api"
	"shunter/code"
	"shunter/ground"
	"shunter/image"
	"shunter/name"
	"shunter/shape"
	"shunter/vec"
)

// found is what a flaw tells; the zero one is none.
type found struct {
	part, n int
	e       api.Errno
}

func tell(part, n int, e api.Errno) found { return found{part, n, e} }

// asked is what Check tells; each flaw's text is asked by the way.
func asked(t *testing.T, m api.Image) found {
	t.Helper()
	err := image.Check(m)
	if err == nil {
		return found{}
	}
	f, ok := err.(*image.Flaw)
	if !ok || f == nil || f.E == api.OK {
		t.Fatalf("Check = %#v", err)
	}
	if got := tell(image.Why(err)); got != (found{f.Part, f.N, f.E}) {
		t.Errorf("Why(%v) = %v", *f, got)
	}
	return found{f.Part, f.N, f.E}
}

func vecOf(w int, lo uint64) api.Vec { return api.Vec{W: w, Lo: lo} }

func ones(w int) api.Vec {
	v, _ := vec.Prefix(w, w)
	return v
}

func right() api.Image { return ground.Image() }

func everyIns() []api.Ins { return ground.EveryIns() }

func least() api.Image { return ground.LeastImage() }

// The model asks one thing after the other, as the chapter tells it, and gives up at the first that isn't so.

type model struct {
	m       api.Image
	part, n int
}

// first is the first thing that isn't so.
func firstFlaw(m api.Image) (f found) {
	defer func() {
		if r := recover(); r != nil {
			f = r.(found)
		}
	}()
	x := &model{m: m}
	x.head()
	x.states()
	x.actions()
	x.tables()
	x.nodes(7, m.Ingress)
	x.nodes(8, m.Egress)
	x.tail()
	return found{}
}

func (x *model) must(so bool, e api.Errno) {
	if !so {
		panic(found{x.part, x.n, e})
	}
}

func (x *model) at(part, n int) { x.part, x.n = part, n }

func (x *model) count(part, n, most int) {
	x.at(part, 0)
	x.must(n <= most, api.ErrLong)
}

func (x *model) name(names []string) {
	s := names[len(names)-1]
	x.must(name.May(s) && strings.IndexByte(s, '.') < 0, api.ErrForm)
	for _, other := range names[:len(names)-1] {
		x.must(!name.Alike(other, s), api.ErrTwice)
	}
}

// slots are the instances of all slots.
func slots(m api.Image) []int {
	var l []int
	for i, x := range m.Insts {
		for range map[int]int{0: 1, 1: 1, 2: 2, 3: 3, 4: 4}[x.Depth] {
			l = append(l, i)
		}
	}
	return l
}

func has[T any](l []T, i int) bool { return 0 <= i && i < len(l) }

// fieldsOf are a slot's fields.
func fieldsOf(m api.Image, slot int) ([]api.Field, bool) {
	l := slots(m)
	if !has(l, slot) || !has(m.Headers, m.Insts[l[slot]].Header) {
		return nil, false
	}
	return m.Headers[m.Insts[l[slot]].Header].Fields, true
}

// widthOf is the width of a part of a key; below 1, if there is none.
func widthOf(m api.Image, k api.Key) int {
	metas := []int{8, 8, 8, 1, 8, 1, 16, 8}
	for _, f := range m.Metas {
		metas = append(metas, f.W)
	}
	fields, _ := fieldsOf(m, k.A)
	switch {
	case k.Kind == api.KeyField && has(fields, k.B):
		return fields[k.B].W
	case k.Kind == api.KeyMeta && has(metas, k.A):
		return metas[k.A]
	case k.Kind == api.KeyLook:
		return k.B
	}
	return 0
}

func (x *model) head() {
	m := x.m
	x.at(0, 0)
	x.must(name.May(m.Name), api.ErrForm)
	x.must(1 <= m.Ports && m.Ports <= 64 && 1 <= m.Depth && m.Depth <= 32 && 0 <= m.Rounds && m.Rounds <= 4, api.ErrRange)
	x.count(1, len(m.Headers), 16)
	for i, h := range m.Headers {
		x.at(1, i)
		x.must(shape.May(h) == api.OK, shape.May(h))
		for _, other := range m.Headers[:i] {
			x.must(!name.Alike(other.Name, h.Name), api.ErrTwice)
		}
	}
	x.at(2, 0)
	x.must(shape.Insts(m.Headers, m.Insts) == api.OK, shape.Insts(m.Headers, m.Insts))
	x.count(3, len(m.Metas), 16)
	var names []string
	for i, f := range m.Metas {
		x.at(3, i)
		names = append(names, f.Name)
		x.name(names)
		x.must(1 <= f.W && f.W <= 128, api.ErrWidth)
	}
}

func (x *model) next(n int) {
	x.must(n == -1 || n == -2 || has(x.m.States, n), api.ErrNone)
}

// key is the whole width.
func (x *model) key(l []api.Key, look bool) int {
	x.must(len(l) <= 4, api.ErrLong)
	total := 0
	for _, k := range l {
		x.must(k.Kind == api.KeyField || k.Kind == api.KeyMeta || look && k.Kind == api.KeyLook, api.ErrKind)
		if k.Kind == api.KeyLook {
			x.must(0 <= k.A && k.A <= 1024 && 1 <= k.B && k.B <= 64, api.ErrRange)
		}
		x.must(widthOf(x.m, k) > 0, api.ErrNone)
		x.must(k.Kind != api.KeyMeta || k.B == 0, api.ErrRange)
		total += widthOf(x.m, k)
	}
	x.must(total <= 128, api.ErrWidth)
	return total
}

func (x *model) states() {
	m := x.m
	x.at(4, 0)
	x.must(len(m.States) > 0, api.ErrNone)
	x.count(4, len(m.States), 16)
	var names []string
	for i, s := range m.States {
		x.at(4, i)
		names = append(names, s.Name)
		x.name(names)
		x.must(len(s.Exts) <= 4, api.ErrLong)
		for _, ext := range s.Exts {
			switch ext.Kind {
			case api.ExtOne:
				x.must(has(slots(m), ext.N) && m.Insts[slots(m)[ext.N]].Depth == 0, api.ErrNone)
			case api.ExtNext:
				x.must(has(m.Insts, ext.N) && m.Insts[ext.N].Depth > 0, api.ErrNone)
			case api.ExtSkip:
				x.must(1 <= ext.N && ext.N <= 64, api.ErrRange)
			default:
				x.must(false, api.ErrKind)
			}
		}
		w := x.key(s.Keys, true)
		x.must(len(s.Cases) <= 8, api.ErrLong)
		x.must(len(s.Cases) == 0 || len(s.Keys) > 0, api.ErrForm)
		for _, k := range s.Cases {
			x.must(k.Value.W == w && k.Mask.W == w && vec.May(k.Value) && vec.May(k.Mask), api.ErrWidth)
			x.must(k.Value.Hi&^k.Mask.Hi == 0 && k.Value.Lo&^k.Mask.Lo == 0, api.ErrMask)
			x.next(k.Next)
		}
		x.next(s.Next)
	}
}

func (x *model) actions() {
	x.count(5, len(x.m.Actions), 32)
	var names []string
	for i, a := range x.m.Actions {
		x.at(5, i)
		names = append(names, a.Name)
		x.name(names)
		x.must(len(a.Params) <= 8, api.ErrLong)
		for _, w := range a.Params {
			x.must(1 <= w && w <= 128, api.ErrWidth)
		}
		x.code(len(a.Params), a.Code)
	}
}

func (x *model) code(params int, l []api.Ins) {
	_, _, e := code.All(l)
	x.must(e == api.OK, e)
	m := x.m
	for i, k := range l {
		so := true
		to := len(l)
		switch k.Op {
		case api.OpField, api.OpPutField:
			fields, _ := fieldsOf(m, k.A)
			so = has(fields, k.B)
		case api.OpMeta, api.OpPutMeta:
			so = k.A < 8+len(m.Metas)
		case api.OpParam:
			so = k.A < params
		case api.OpReg, api.OpPutReg:
			so = k.A < len(m.Regs)
		case api.OpCount:
			so = k.A < len(m.Counters)
		case api.OpMeter:
			so = k.A < len(m.Meters)
		case api.OpValid, api.OpShow, api.OpHide:
			so = has(slots(m), k.A)
		case api.OpPushHead, api.OpPopHead:
			so = has(m.Insts, k.A) && slices.Contains([]int{1, 2, 3, 4}, m.Insts[k.A].Depth)
		case api.OpJump, api.OpJumpZero:
			to = k.A
		case api.OpJumpGone:
			so, to = has(slots(m), k.A), k.B
		}
		x.must(so, api.ErrNone)
		x.must(i < to && to <= len(l), api.ErrLoop)
	}
}

func (x *model) args(action int, l []api.Vec) {
	params := x.m.Actions[action].Params
	x.must(len(l) == len(params), api.ErrLong)
	for i, v := range l {
		x.must(vec.May(v) && v.W == params[i], api.ErrWidth)
	}
}

func (x *model) tables() {
	x.count(6, len(x.m.Tables), 8)
	var names []string
	for i, k := range x.m.Tables {
		x.at(6, i)
		names = append(names, k.Name)
		x.name(names)
		x.must(0 <= k.Kind && k.Kind <= 3, api.ErrKind)
		x.must(len(k.Keys) > 0, api.ErrNone)
		x.key(k.Keys, false)
		x.must(len(k.Actions) > 0, api.ErrNone)
		x.must(len(k.Actions) <= 8, api.ErrLong)
		for _, a := range k.Actions {
			x.must(has(x.m.Actions, a), api.ErrNone)
		}
		for i, a := range k.Actions {
			x.must(slices.Index(k.Actions, a) == i, api.ErrTwice)
		}
		x.must(slices.Index(k.Actions, k.Default.Action) >= 0, api.ErrAction)
		x.args(k.Default.Action, k.Default.Args)
		x.must(1 <= k.Size && k.Size <= 256, api.ErrRange)
	}
}

func (x *model) nodes(part int, l []api.Node) {
	x.count(part, len(l), 32)
	for i, k := range l {
		x.at(part, i)
		switch k.Kind {
		case api.NodeApply:
			x.must(has(x.m.Tables, k.A), api.ErrNone)
		case api.NodeIf:
			x.must(k.A == 0, api.ErrNone)
			x.code(0, k.Code)
		case api.NodeDo:
			x.must(has(x.m.Actions, k.A), api.ErrNone)
		case api.NodeValid:
			x.must(has(slots(x.m), k.A), api.ErrNone)
		default:
			x.must(false, api.ErrKind)
		}
		x.must(k.Kind == api.NodeIf || len(k.Code) == 0, api.ErrForm)
		if k.Kind == api.NodeDo {
			x.args(k.A, k.Args)
			x.must(k.No == 0, api.ErrForm)
		}
		x.must(k.Kind == api.NodeDo || len(k.Args) == 0, api.ErrForm)
		x.must(i < k.Yes && k.Yes <= len(l), api.ErrLoop)
		x.must(k.Kind == api.NodeDo || i < k.No && k.No <= len(l), api.ErrLoop)
	}
}

func (x *model) sums(part int, l []api.Sum) {
	x.count(part, len(l), 4)
	for i, k := range l {
		x.at(part, i)
		fields, _ := fieldsOf(x.m, k.Slot)
		x.must(has(fields, k.Field), api.ErrNone)
		ahead := 0
		for _, f := range fields[:k.Field] {
			ahead += f.W
		}
		x.must(fields[k.Field].W == 16 && ahead%16 == 0, api.ErrWidth)
	}
}

// unit is a register, a counter, or a meter; of what it hasn't it has something that may be.
type unit struct {
	name                string
	w, log, rate, burst int
}

func (x *model) units(part int, l []unit) {
	x.count(part, len(l), 8)
	var names []string
	for i, k := range l {
		x.at(part, i)
		names = append(names, k.name)
		x.name(names)
		x.must(1 <= k.w && k.w <= 128, api.ErrWidth)
		x.must(1 <= k.log && k.log <= 8, api.ErrRange)
		x.must(0 <= k.rate && k.rate <= 65535 && 1 <= k.burst && k.burst <= 1048576, api.ErrRange)
	}
}

func (x *model) tail() {
	m := x.m
	x.count(9, len(m.Deparse), 32)
	for i, slot := range m.Deparse {
		x.at(9, i)
		x.must(has(slots(m), slot), api.ErrNone)
		x.must(slices.Index(m.Deparse, slot) == i, api.ErrTwice)
	}
	x.sums(10, m.Checks)
	x.sums(11, m.Updates)
	var l [3][]unit
	for _, k := range m.Regs {
		l[0] = append(l[0], unit{k.Name, k.W, k.Log, 0, 1})
	}
	for _, k := range m.Counters {
		l[1] = append(l[1], unit{k.Name, 1, k.Log, 0, 1})
	}
	for _, k := range m.Meters {
		l[2] = append(l[2], unit{k.Name, 1, k.Log, k.Rate, k.Burst})
	}
	for i := range l {
		x.units(12+i, l[i])
	}
}

// wrongNames are no names, or have a full stop.
func wrongNames() []string {
	return append(noNames(), "a.", "a.b", "eth.typ")
}

func noNames() []string {
	return []string{"", "1", "-a", ".", ".a", "a b", "a\x00", "×", "\xff", "a\xff", strings.Repeat("a", 25), strings.Repeat("é", 25), strings.Repeat("a", 70000)}
}

// outside are numbers that nothing in an image may be.
func outside() []int {
	return []int{math.MinInt, math.MinInt + 1, math.MinInt32, -1 << 16, -3, 1<<20 + 1, math.MaxInt32, math.MaxInt32 + 1, math.MaxInt - 1, math.MaxInt}
}

func is[T any](t *testing.T, got, want T, call string, args ...any) {
	t.Helper()
	if !reflect.DeepEqual(got, want) {
		t.Fatalf("%s %v = %v; want %v", call, args, got, want)
	}
}
