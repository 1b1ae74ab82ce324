package code_test

import (
	"math"
	"reflect"
	"strconv"
	"sync"
	"testing"

	"shunter/api"
	"shunter/code"
	"shunter/vec"
)

// The model is the chapter's table, row by row, in the order in which api numbers the operations.

// row is what one operation asks for.
type row struct {
	name        string
	takes, puts int
	a, b        []int // from, to; nil: it isn't named
	push, slice bool
	step        func(o api.Op, a, b int, v api.Vec) code.Step
}

var (
	zeroToTop = []int{0, 127}
	places    = []int{0, 64}
	slots     = []int{0, 31}
	units     = []int{0, 7}
	widths    = []int{1, 128}
	moves     = []int{0, 128}
)

func push(_ api.Op, _, _ int, v api.Vec) code.Step  { return code.Push{V: v} }
func place(o api.Op, a, b int, _ api.Vec) code.Step { return code.Place{O: o, Slot: a, Field: b} }
func cell(o api.Op, a, _ int, _ api.Vec) code.Step  { return code.Cell{O: o, N: a} }
func slot(o api.Op, a, _ int, _ api.Vec) code.Step  { return code.Slot{O: o, N: a} }
func one(o api.Op, a, _ int, _ api.Vec) code.Step   { return code.One{O: o, N: a} }
func part(_ api.Op, a, b int, _ api.Vec) code.Step  { return code.Part{Hi: a, Lo: b} }
func two(o api.Op, _, _ int, _ api.Vec) code.Step   { return code.Two{O: o} }
func heads(o api.Op, a, b int, _ api.Vec) code.Step { return code.Heads{O: o, Inst: a, N: b} }
func jump(o api.Op, a, _ int, _ api.Vec) code.Step  { return code.Jump{O: o, To: a} }
func gone(_ api.Op, a, b int, _ api.Vec) code.Step  { return code.Gone{Slot: a, To: b} }
func stop(_ api.Op, _, _ int, _ api.Vec) code.Step  { return code.Stop{} }

// table is made once, for it is asked for each of many instructions.
var table = sync.OnceValue(func() []row {
	return []row{
		{name: "push", puts: 1, push: true, step: push},
		{name: "field", puts: 1, a: slots, b: []int{0, 15}, step: place},
		{name: "meta", puts: 1, a: []int{0, 23}, step: cell},
		{name: "param", puts: 1, a: units, step: cell},
		{name: "valid", puts: 1, a: slots, step: slot},
		{name: "reg", takes: 1, puts: 1, a: units, step: cell},
		{name: "not", takes: 1, puts: 1, step: one},
		{name: "neg", takes: 1, puts: 1, step: one},
		{name: "shl", takes: 1, puts: 1, a: moves, step: one},
		{name: "shr", takes: 1, puts: 1, a: moves, step: one},
		{name: "slice", takes: 1, puts: 1, a: zeroToTop, b: zeroToTop, slice: true, step: part},
		{name: "cast", takes: 1, puts: 1, a: widths, step: one},
		{name: "add", takes: 2, puts: 1, step: two},
		{name: "sub", takes: 2, puts: 1, step: two},
		{name: "add-sat", takes: 2, puts: 1, step: two},
		{name: "sub-sat", takes: 2, puts: 1, step: two},
		{name: "and", takes: 2, puts: 1, step: two},
		{name: "or", takes: 2, puts: 1, step: two},
		{name: "xor", takes: 2, puts: 1, step: two},
		{name: "cat", takes: 2, puts: 1, step: two},
		{name: "eq", takes: 2, puts: 1, step: two},
		{name: "less", takes: 2, puts: 1, step: two},
		{name: "put-field", takes: 1, a: slots, b: []int{0, 15}, step: place},
		{name: "put-meta", takes: 1, a: []int{0, 23}, step: cell},
		{name: "put-reg", takes: 2, a: units, step: cell},
		{name: "show", a: slots, step: slot},
		{name: "hide", a: slots, step: slot},
		{name: "push-head", a: []int{0, 15}, b: []int{1, 4}, step: heads},
		{name: "pop-head", a: []int{0, 15}, b: []int{1, 4}, step: heads},
		{name: "count", takes: 1, a: units, step: cell},
		{name: "meter", takes: 1, puts: 1, a: units, step: cell},
		{name: "jump", a: places, step: jump},
		{name: "jump-zero", takes: 1, a: places, step: jump},
		{name: "jump-gone", a: slots, b: places, step: gone},
		{name: "stop", step: stop},
	}
})

// inside tells whether a number is one of those that are asked for: 0, where none is.
func inside(n int, fromTo []int) bool {
	if fromTo == nil {
		return n == 0
	}
	return fromTo[0] <= n && n <= fromTo[1]
}

func (r row) may(x api.Ins) api.Errno {
	if !inside(x.A, r.a) || !inside(x.B, r.b) || r.slice && x.B > x.A {
		return api.ErrRange
	}
	if r.push && !vec.May(x.V) || !r.push && x.V != (api.Vec{}) {
		return api.ErrArg
	}
	return api.OK
}

func (r row) text(x api.Ins) string {
	s := r.name
	if r.push {
		s += " " + vec.Text(x.V)
	}
	if r.a != nil {
		s += " " + strconv.Itoa(x.A)
	}
	if r.b != nil {
		s += " " + strconv.Itoa(x.B)
	}
	return s
}

// may is what May answers.
func may(x api.Ins) api.Errno {
	if x.Op < 0 || int(x.Op) >= len(table()) {
		return api.ErrKind
	}
	return table()[x.Op].may(x)
}

// noOps are no operations.
func noOps() []api.Op {
	return []api.Op{-1, -2, 35, 36, 64, 255, 256, 1 << 32, 1<<32 + 3, math.MaxInt, math.MinInt, math.MinInt + 1}
}

// ops are all operations, and some that are none.
func ops() []api.Op {
	l := noOps()
	for o := range table() {
		l = append(l, api.Op(o))
	}
	return l
}

// numbers are those about all the edges.
func numbers() []int {
	return []int{math.MinInt, math.MinInt + 1, -1 << 32, -129, -128, -64, -2, -1, 0, 1, 2, 3, 4, 5, 6, 7, 8, 9, 14, 15, 16, 17, 22, 23, 24, 25, 30, 31, 32, 33, 62, 63, 64, 65, 66, 126, 127, 128, 129, 255, 256, 1 << 32, 1<<32 + 1, math.MaxInt - 1, math.MaxInt}
}

// rows are some that may be, and some that may not be.
func rows() []api.Vec {
	return []api.Vec{
		{}, {W: 1}, {W: 1, Lo: 1}, {W: 8, Lo: 255}, {W: 64, Lo: math.MaxUint64}, {W: 65, Hi: 1}, {W: 128, Hi: math.MaxUint64, Lo: math.MaxUint64}, {W: 128},
		{W: 1, Lo: 2}, {W: 8, Lo: 256}, {W: 8, Hi: 1}, {W: 129}, {W: -1}, {Lo: 1}, {Hi: 1}, {W: math.MinInt}, {W: math.MaxInt, Lo: 1}, {W: 127, Hi: math.MaxUint64},
	}
}

// eachIns goes over instructions of all operations: with all those numbers and a few rows, and with a few numbers and all those rows.
func eachIns(do func(x api.Ins)) {
	few := []api.Vec{{}, {W: 8, Lo: 255}, {W: 8, Lo: 256}}
	for _, o := range ops() {
		for _, a := range numbers() {
			for _, b := range numbers() {
				for _, v := range few {
					do(api.Ins{Op: o, A: a, B: b, V: v})
				}
			}
		}
		for _, v := range rows() {
			for n := -1; n <= 2; n++ {
				do(api.Ins{Op: o, A: n, B: n, V: v})
				do(api.Ins{Op: o, A: n, V: v})
			}
		}
	}
}

// eachRight goes over all those that may be, of push some.
func eachRight(do func(x api.Ins)) {
	for o, r := range table() {
		if r.push {
			for _, v := range rows() {
				if vec.May(v) {
					do(api.Ins{Op: api.Op(o), V: v})
				}
			}
			continue
		}
		for a := range 130 {
			for b := range 130 {
				if x := (api.Ins{Op: api.Op(o), A: a, B: b}); r.may(x) == api.OK {
					do(x)
				}
			}
		}
	}
}

func is(t *testing.T, got, want any, what string, of ...any) {
	t.Helper()
	if !reflect.DeepEqual(got, want) {
		t.Errorf("%s %v = %v; want %v", what, of, got, want)
	}
}
