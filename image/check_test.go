package image_test

import (
	"math"
	"reflect"
	"slices"
	"strconv"
	"testing"

	"shunter/api"
	"shunter/ground"
	"shunter/image"
)

// flaw breaks an image that is right, so that it is found behind all those of a lower rank in the same thing; two of one spot can't be put together.
type flaw struct {
	found
	rank int
	spot string
	in   func(m *api.Image)
}

// before tells whether a flaw is told ahead of another one.
func (f flaw) before(other flaw) bool {
	return slices.Compare([]int{f.part, f.n, f.rank}, []int{other.part, other.n, other.rank}) < 0
}

// flaws are gathered part by part.
type flaws struct {
	l []flaw
}

func (f *flaws) add(part, n, rank int, e api.Errno, spot string, in func(m *api.Image)) {
	f.l = append(f.l, flaw{found{part, n, e}, rank, strconv.Itoa(part) + " " + spot, in})
}

// number sets a number to each of some that it may not be.
func (f *flaws) number(part, n, rank int, e api.Errno, spot string, at func(m *api.Image) *int, wrong ...int) {
	for _, x := range wrong {
		f.add(part, n, rank, e, spot, func(m *api.Image) { *at(m) = x })
	}
}

// names sets a thing's name to what is none, and to what is alike to each one ahead.
func (f *flaws) names(part, n int, at func(m *api.Image, n int) *string, ahead ...string) {
	spot := "name " + strconv.Itoa(n)
	for _, s := range wrongNames() {
		f.add(part, n, 0, api.ErrForm, spot, func(m *api.Image) { *at(m, n) = s })
	}
	for _, s := range ahead {
		f.add(part, n, 1, api.ErrTwice, spot, func(m *api.Image) { *at(m, n) = s })
	}
}

// many is a list that is one too long, made of its first thing.
func many[T any](l []T, most int) []T {
	return append(slices.Clone(l), slices.Repeat(l[:1], most+1-len(l))...)
}

func (f *flaws) heads() {
	for _, s := range noNames() { // an image's name may have a full stop
		f.add(0, 0, 0, api.ErrForm, "name", func(m *api.Image) { m.Name = s })
	}
	f.number(0, 0, 1, api.ErrRange, "ports", func(m *api.Image) *int { return &m.Ports }, 0, -1, 65, math.MinInt, math.MaxInt)
	f.number(0, 0, 1, api.ErrRange, "depth", func(m *api.Image) *int { return &m.Depth }, 0, -1, 33, math.MinInt, math.MaxInt)
	f.number(0, 0, 1, api.ErrRange, "rounds", func(m *api.Image) *int { return &m.Rounds }, -1, 5, math.MinInt, math.MaxInt)

	f.add(1, 0, -1, api.ErrLong, "count", func(m *api.Image) { m.Headers = many(m.Headers, 16) })
	ahead := []string{"ETH", "Tag", "iP"}
	for i := range 4 {
		spot := "header " + strconv.Itoa(i)
		for _, s := range wrongNames() {
			f.add(1, i, 0, api.ErrForm, spot, func(m *api.Image) { m.Headers[i].Name = s })
		}
		f.add(1, i, 1, api.ErrNone, spot+" fields", func(m *api.Image) { m.Headers[i].Fields = nil })
		f.add(1, i, 2, api.ErrWidth, spot+" fields", func(m *api.Image) { m.Headers[i].Fields[0].W = 129 })
		f.add(1, i, 3, api.ErrRange, spot+" var", func(m *api.Image) { m.Headers[i].Var = 65 })
		for _, s := range ahead[:i] {
			f.add(1, i, 4, api.ErrTwice, spot, func(m *api.Image) { m.Headers[i].Name = s })
		}
	}
	// All instances are one thing.
	f.add(2, 0, -1, api.ErrLong, "count", func(m *api.Image) { m.Insts = many(m.Insts, 16) })
	f.add(2, 0, 0, api.ErrForm, "name 1", func(m *api.Image) { m.Insts[1].Name = "tags.1" })
	f.add(2, 0, 1, api.ErrTwice, "name 1", func(m *api.Image) { m.Insts[1].Name = "ETH" })
	f.add(2, 0, 2, api.ErrNone, "header 1", func(m *api.Image) { m.Insts[1].Header = 4 })
	f.add(2, 0, 3, api.ErrRange, "depth 1", func(m *api.Image) { m.Insts[1].Depth = 5 })
	f.add(2, 0, 4, api.ErrForm, "name 4", func(m *api.Image) { m.Insts[4].Name = "" })
	f.add(2, 0, 5, api.ErrNone, "header 4", func(m *api.Image) { m.Insts[4].Header = -1 })

	f.add(3, 0, -1, api.ErrLong, "count", func(m *api.Image) { m.Metas = many(m.Metas, 16) })
	for i := range 3 {
		f.names(3, i, func(m *api.Image, n int) *string { return &m.Metas[n].Name }, []string{"Mark", "WIDE"}[:i]...)
		f.number(3, i, 2, api.ErrWidth, "width "+strconv.Itoa(i), func(m *api.Image) *int { return &m.Metas[i].W }, 0, -1, 129, math.MinInt, math.MaxInt)
	}
}

func (f *flaws) states() {
	f.add(4, 0, -2, api.ErrNone, "count", func(m *api.Image) { m.States = nil })
	f.add(4, 0, -2, api.ErrNone, "count", func(m *api.Image) { m.States = []api.State{} })
	f.add(4, 0, -1, api.ErrLong, "count", func(m *api.Image) { m.States = many(m.States, 16) })
	for i := range 4 {
		at := strconv.Itoa(i)
		f.names(4, i, func(m *api.Image, n int) *string { return &m.States[n].Name }, []string{"START", "Tag", "iP"}[:i]...)
		next := append(outside(), 4, 255, 254)
		f.number(4, i, 99, api.ErrNone, "next "+at, func(m *api.Image) *int { return &m.States[i].Next }, next...)
		for k := range []int{2, 8, 1, 0}[i] {
			spot := "case " + at + " " + strconv.Itoa(k)
			rank := 60 + 4*k
			f.number(4, i, rank+2, api.ErrNone, spot+" next", func(m *api.Image) *int { return &m.States[i].Cases[k].Next }, next...)
			for _, w := range []int{0, 1, 15, 24, 26, 127, 129, -1, math.MaxInt, math.MinInt} {
				f.add(4, i, rank, api.ErrWidth, spot+" value", func(m *api.Image) { m.States[i].Cases[k].Value.W = w })
				f.add(4, i, rank, api.ErrWidth, spot+" mask", func(m *api.Image) { m.States[i].Cases[k].Mask = api.Vec{W: w} })
			}
			if i < 2 { // of a row of 128 bits each number may be
				f.add(4, i, rank, api.ErrWidth, spot+" value", func(m *api.Image) { m.States[i].Cases[k].Value.Hi = 1 })
				f.add(4, i, rank, api.ErrWidth, spot+" mask", func(m *api.Image) { m.States[i].Cases[k].Mask.Lo |= 1 << 25 })
				f.add(4, i, rank+1, api.ErrMask, spot+" value", func(m *api.Image) {
					m.States[i].Cases[k].Value.Lo, m.States[i].Cases[k].Mask.Lo = 3, 2
				})
			}
		}
	}
	for _, lost := range []api.Vec{{W: 128, Lo: math.MaxUint64}, {W: 128, Hi: math.MaxUint64}, {W: 128, Hi: math.MaxUint64 >> 1, Lo: math.MaxUint64}, {W: 128, Hi: math.MaxUint64, Lo: math.MaxUint64 - 1}} {
		f.add(4, 2, 61, api.ErrMask, "case 2 0 mask", func(m *api.Image) { m.States[2].Cases[0].Mask = lost })
	}
	f.add(4, 1, 59, api.ErrLong, "cases 1", func(m *api.Image) { m.States[1].Cases = many(m.States[1].Cases, 8) })
	f.add(4, 3, 58, api.ErrLong, "cases 3", func(m *api.Image) { m.States[3].Cases = make([]api.Case, 9) })
	f.add(4, 3, 59, api.ErrForm, "cases 3", func(m *api.Image) { m.States[3].Cases = []api.Case{{Next: -7}} })
	f.add(4, 3, 59, api.ErrForm, "cases 3", func(m *api.Image) { m.States[3].Cases = make([]api.Case, 8) })
	f.exts()
	f.keys()
}

func (f *flaws) exts() {
	ext := func(state, i int) func(m *api.Image) *api.Ext {
		return func(m *api.Image) *api.Ext { return &m.States[state].Exts[i] }
	}
	kind := func(state, i int) {
		for _, k := range []api.ExtKind{3, -1, math.MinInt, math.MaxInt} {
			f.add(4, state, 3+2*i, api.ErrKind, "ext "+strconv.Itoa(state)+strconv.Itoa(i), func(m *api.Image) { ext(state, i)(m).Kind = k })
		}
	}
	number := func(state, i int, e api.Errno, wrong ...int) {
		f.number(4, state, 4+2*i, e, "ext "+strconv.Itoa(state)+strconv.Itoa(i), func(m *api.Image) *int { return &ext(state, i)(m).N }, wrong...)
	}
	f.add(4, 2, 2, api.ErrLong, "exts 2", func(m *api.Image) { m.States[2].Exts = many(m.States[2].Exts, 4) })
	f.add(4, 3, 2, api.ErrLong, "exts 3", func(m *api.Image) { m.States[3].Exts = make([]api.Ext, 5) })
	for _, x := range [][2]int{{0, 0}, {1, 0}, {1, 1}, {2, 0}, {2, 1}, {2, 2}, {2, 3}} {
		kind(x[0], x[1])
	}
	for _, x := range [][2]int{{0, 0}, {2, 0}, {2, 3}} { // One: slots of stacks, or none
		number(x[0], x[1], api.ErrNone, append(outside(), -1, 1, 2, 3, 5, 7, 32)...)
	}
	for _, x := range [][2]int{{1, 0}, {2, 2}} { // Next: instances of Depth 0, or none
		number(x[0], x[1], api.ErrNone, append(outside(), -1, 0, 2, 4, 5, 16)...)
	}
	for _, x := range [][2]int{{1, 1}, {2, 1}} { // Skip
		number(x[0], x[1], api.ErrRange, append(outside(), -1, 0, 65)...)
	}
}

// keys breaks the keys of states and of tables alike.
func (f *flaws) keys() {
	key := func(part, n int) func(m *api.Image) *[]api.Key {
		if part == 4 {
			return func(m *api.Image) *[]api.Key { return &m.States[n].Keys }
		}
		return func(m *api.Image) *[]api.Key { return &m.Tables[n].Keys }
	}
	broken := func(part, n, i, rank int, e api.Errno, to api.Key) {
		spot := "key " + strconv.Itoa(n) + " " + strconv.Itoa(i)
		f.add(part, n, 20+4*i+rank, e, spot, func(m *api.Image) { (*key(part, n)(m))[i] = to })
	}
	for _, x := range [][3]int{{4, 0, 1}, {4, 1, 3}, {4, 2, 4}, {6, 0, 1}, {6, 1, 1}, {6, 2, 4}, {6, 3, 2}} {
		part, n, count := x[0], x[1], x[2]
		f.add(part, n, 19, api.ErrLong, "key "+strconv.Itoa(n), func(m *api.Image) { *key(part, n)(m) = many(*key(part, n)(m), 4) })
		f.add(part, n, 50, api.ErrWidth, "key "+strconv.Itoa(n)+" "+strconv.Itoa(count-1), func(m *api.Image) {
			(*key(part, n)(m))[count-1] = api.Key{Kind: api.KeyMeta, A: 9}
			if count == 1 {
				*key(part, n)(m) = append(*key(part, n)(m), api.Key{Kind: api.KeyMeta, A: 10})
			}
		})
		for i := range count {
			for _, k := range []api.KeyKind{3, -1, math.MinInt, math.MaxInt} {
				broken(part, n, i, 0, api.ErrKind, api.Key{Kind: k})
			}
			for _, k := range append(outside(), -1, 7, 32) {
				broken(part, n, i, 1, api.ErrNone, api.Key{A: k})
			}
			for _, k := range append(outside(), -1, 3, 16) {
				broken(part, n, i, 1, api.ErrNone, api.Key{B: k})
			}
			for _, k := range append(outside(), -1, 11, 24) {
				broken(part, n, i, 1, api.ErrNone, api.Key{Kind: api.KeyMeta, A: k, B: k})
			}
			for _, k := range append(outside(), -1, 1) {
				broken(part, n, i, 2, api.ErrRange, api.Key{Kind: api.KeyMeta, A: 10, B: k})
			}
			if part == 6 {
				broken(part, n, i, 0, api.ErrKind, api.Key{Kind: api.KeyLook, B: 1})
				broken(part, n, i, 0, api.ErrKind, api.Key{Kind: api.KeyLook, A: -1, B: 1})
				continue
			}
			for _, k := range append(outside(), -1, 1025) {
				broken(part, n, i, 2, api.ErrRange, api.Key{Kind: api.KeyLook, A: k, B: 1})
			}
			for _, k := range append(outside(), -1, 0, 65, 128) {
				broken(part, n, i, 2, api.ErrRange, api.Key{Kind: api.KeyLook, B: k})
			}
		}
	}
}

// codes breaks the code of a thing, which has some instructions that are right.
func (f *flaws) codes(part, n int, params int, at func(m *api.Image) *[]api.Ins) {
	spot := "code " + strconv.Itoa(n)
	put := func(rank int, e api.Errno, wrong ...api.Ins) {
		for _, x := range wrong {
			f.add(part, n, rank, e, spot, func(m *api.Image) { *at(m) = append(slices.Clip(*at(m)), x) })
		}
	}
	f.add(part, n, 20, api.ErrLong, spot, func(m *api.Image) { *at(m) = make([]api.Ins, 65); fill(*at(m)) })
	put(20, api.ErrKind, api.Ins{Op: 35}, api.Ins{Op: -1})
	put(20, api.ErrRange, api.Ins{Op: api.OpField, A: 32}, api.Ins{Op: api.OpJump, A: -1}, api.Ins{Op: api.OpNot, B: 1})
	put(20, api.ErrArg, api.Ins{}, api.Ins{Op: api.OpStop, V: vecOf(1, 0)})
	put(21, api.ErrNone,
		api.Ins{Op: api.OpField, A: 7}, api.Ins{Op: api.OpField, B: 3}, api.Ins{Op: api.OpPutField, A: 31}, api.Ins{Op: api.OpPutField, A: 6, B: 4}, api.Ins{Op: api.OpMeta, A: 11}, api.Ins{Op: api.OpPutMeta, A: 11}, api.Ins{Op: api.OpParam, A: params}, api.Ins{Op: api.OpReg, A: 2}, api.Ins{Op: api.OpPutReg, A: 2}, api.Ins{Op: api.OpCount, A: 3}, api.Ins{Op: api.OpMeter, A: 2},
		api.Ins{Op: api.OpValid, A: 7}, api.Ins{Op: api.OpShow, A: 7}, api.Ins{Op: api.OpHide, A: 7}, api.Ins{Op: api.OpJumpGone, A: 7, B: 64}, api.Ins{Op: api.OpJumpGone, A: 7}, api.Ins{Op: api.OpPushHead, B: 1}, api.Ins{Op: api.OpPopHead, A: 2, B: 1}, api.Ins{Op: api.OpPushHead, A: 5, B: 1}, api.Ins{Op: api.OpPopHead, A: 4, B: 4})
	put(21, api.ErrLoop, api.Ins{Op: api.OpJump}, api.Ins{Op: api.OpJumpZero}, api.Ins{Op: api.OpJumpGone}, api.Ins{Op: api.OpJump, A: 64}, api.Ins{Op: api.OpJumpZero, A: 64}, api.Ins{Op: api.OpJumpGone, A: 6, B: 64})
}

// fill is code that may be, but for its length.
func fill(l []api.Ins) {
	for i := range l {
		l[i].Op = api.OpStop
	}
}

func (f *flaws) actions() {
	f.add(5, 0, -1, api.ErrLong, "count", func(m *api.Image) { m.Actions = many(m.Actions, 32) })
	names := []string{"DROP", "Send", "eVERY", "Long", "NONE", "Five", "SIX", "SeveN"}
	for i, params := range []int{0, 2, 0, 8, 0, 0, 0, 0, 0} {
		f.names(5, i, func(m *api.Image, n int) *string { return &m.Actions[n].Name }, names[:i]...)
		spot := "params " + strconv.Itoa(i)
		f.add(5, i, 2, api.ErrLong, spot, func(m *api.Image) { m.Actions[i].Params = slices.Repeat([]int{0}, 9) })
		for k := range params {
			f.number(5, i, 3+k, api.ErrWidth, spot+" "+strconv.Itoa(k), func(m *api.Image) *int { return &m.Actions[i].Params[k] }, append(outside(), -1, 0, 129)...)
		}
		if i != 3 { // it has no room for more code
			f.codes(5, i, params, func(m *api.Image) *[]api.Ins { return &m.Actions[i].Code })
		}
	}
	for _, k := range []int{0, 31, 62, 63} {
		f.number(5, 3, 30+k, api.ErrLoop, "code 3 "+strconv.Itoa(k), func(m *api.Image) *int { return &m.Actions[3].Code[k].A }, k, 0)
	}
	f.add(5, 3, 20, api.ErrLong, "code 3", func(m *api.Image) { m.Actions[3].Code = many(m.Actions[3].Code, 64) })
}

func (f *flaws) tables() {
	f.add(6, 0, -1, api.ErrLong, "count", func(m *api.Image) { m.Tables = many(m.Tables, 8) })
	for i := range 4 {
		at := " " + strconv.Itoa(i)
		f.names(6, i, func(m *api.Image, n int) *string { return &m.Tables[n].Name }, []string{"Exact", "LPM", "ternarY"}[:i]...)
		for _, k := range []api.TabKind{4, -1, math.MinInt, math.MaxInt} {
			f.add(6, i, 2, api.ErrKind, "kind"+at, func(m *api.Image) { m.Tables[i].Kind = k })
		}
		f.add(6, i, 3, api.ErrNone, "key"+at+" 0", func(m *api.Image) { m.Tables[i].Keys = nil })
		f.add(6, i, 60, api.ErrNone, "actions"+at, func(m *api.Image) { m.Tables[i].Actions = nil })
		f.add(6, i, 61, api.ErrLong, "actions"+at, func(m *api.Image) { m.Tables[i].Actions = slices.Repeat([]int{-1}, 9) })
		f.add(6, i, 61, api.ErrLong, "actions"+at, func(m *api.Image) { m.Tables[i].Actions = []int{0, 1, 2, 3, 4, 5, 6, 7, 8} })
		for _, k := range append(outside(), -1, 9, 32) {
			f.add(6, i, 62, api.ErrNone, "actions"+at, func(m *api.Image) { m.Tables[i].Actions[0] = k })
			f.add(6, i, 62, api.ErrNone, "actions"+at, func(m *api.Image) { m.Tables[i].Actions = append([]int{3, 3}, k) })
			f.add(6, i, 65, api.ErrAction, "default"+at, func(m *api.Image) { m.Tables[i].Default.Action = k })
		}
		f.add(6, i, 63, api.ErrTwice, "actions"+at, func(m *api.Image) { m.Tables[i].Actions = append(m.Tables[i].Actions[:1], 3, 5, 3) })
		f.add(6, i, 63, api.ErrTwice, "actions"+at, func(m *api.Image) { m.Tables[i].Actions = []int{8, 8} })
		f.add(6, i, 65, api.ErrAction, "default"+at, func(m *api.Image) { m.Tables[i].Default.Action = 3 })
		f.add(6, i, 66, api.ErrLong, "args"+at, func(m *api.Image) {
			m.Tables[i].Default.Args = append(slices.Clip(m.Tables[i].Default.Args), vecOf(8, 1))
		})
		f.number(6, i, 70, api.ErrRange, "size"+at, func(m *api.Image) *int { return &m.Tables[i].Size }, append(outside(), -1, 0, 257)...)
	}
	f.add(6, 0, 66, api.ErrLong, "args 0", func(m *api.Image) { m.Tables[0].Default.Args = nil })
	f.add(6, 0, 66, api.ErrLong, "args 0", func(m *api.Image) { m.Tables[0].Default.Args = m.Tables[0].Default.Args[:1] })
	for _, v := range []api.Vec{{}, vecOf(7, 1), vecOf(9, 1), vecOf(8, 256), {W: 8, Hi: 1}, vecOf(129, 0)} {
		f.add(6, 0, 67, api.ErrWidth, "args 0", func(m *api.Image) { m.Tables[0].Default.Args[0] = v })
		f.add(6, 0, 67, api.ErrWidth, "args 0", func(m *api.Image) { m.Tables[0].Default.Args[1] = v })
	}
}

func (f *flaws) control(part int, nodes func(m *api.Image) *[]api.Node) {
	node := func(m *api.Image, i int) *api.Node { return &(*nodes(m))[i] }
	f.add(part, 0, -1, api.ErrLong, "count", func(m *api.Image) { *nodes(m) = many(*nodes(m), 32) })
	m := right()
	count := len(*nodes(&m))
	for i, x := range *nodes(&m) {
		at := " " + strconv.Itoa(i)
		for _, k := range []api.NodeKind{4, -1, math.MinInt, math.MaxInt} {
			f.add(part, i, 0, api.ErrKind, "kind"+at, func(m *api.Image) { node(m, i).Kind = k })
		}
		none := map[api.NodeKind]int{api.NodeApply: 4, api.NodeIf: 1, api.NodeDo: 9, api.NodeValid: 7}[x.Kind]
		f.number(part, i, 1, api.ErrNone, "a"+at, func(m *api.Image) *int { return &node(m, i).A }, append(outside(), -1, none, none+1, 32)...)
		if x.Kind == api.NodeIf {
			f.codes(part, i, 0, func(m *api.Image) *[]api.Ins { return &node(m, i).Code })
		} else {
			f.add(part, i, 30, api.ErrForm, "code"+at, func(m *api.Image) { node(m, i).Code = []api.Ins{{Op: api.OpStop}} })
			f.add(part, i, 30, api.ErrForm, "code"+at, func(m *api.Image) { node(m, i).Code = []api.Ins{{}} })
		}
		if x.Kind == api.NodeDo {
			f.add(part, i, 31, api.ErrLong, "args"+at, func(m *api.Image) { node(m, i).Args = append(slices.Clip(node(m, i).Args), vecOf(1, 1)) })
			for k, v := range x.Args {
				f.add(part, i, 31, api.ErrLong, "args"+at, func(m *api.Image) { node(m, i).Args = node(m, i).Args[:k] })
				for _, w := range []api.Vec{{}, {W: v.W - 1}, {W: v.W + 1}, {W: v.W % 128, Hi: 1, Lo: 1 << 9}} {
					f.add(part, i, 32, api.ErrWidth, "args"+at, func(m *api.Image) { node(m, i).Args[k] = w })
				}
			}
			f.number(part, i, 33, api.ErrForm, "no"+at, func(m *api.Image) *int { return &node(m, i).No }, append(outside(), -1, 1, i, i+1, count)...)
		} else {
			f.add(part, i, 31, api.ErrForm, "args"+at, func(m *api.Image) { node(m, i).Args = []api.Vec{{}} })
			f.add(part, i, 31, api.ErrForm, "args"+at, func(m *api.Image) { node(m, i).Args = []api.Vec{vecOf(1, 1)} })
			f.number(part, i, 34, api.ErrLoop, "no"+at, func(m *api.Image) *int { return &node(m, i).No }, append(outside(), -1, 0, i, count+1)...)
		}
		f.number(part, i, 34, api.ErrLoop, "yes"+at, func(m *api.Image) *int { return &node(m, i).Yes }, append(outside(), -1, 0, i, count+1)...)
	}
}

func (f *flaws) tails() {
	f.add(9, 0, -1, api.ErrLong, "count", func(m *api.Image) { m.Deparse = many(m.Deparse, 32) })
	for i := range 7 {
		at := "slot " + strconv.Itoa(i)
		f.number(9, i, 0, api.ErrNone, at, func(m *api.Image) *int { return &m.Deparse[i] }, append(outside(), -1, 7, 32)...)
		f.number(9, i, 1, api.ErrTwice, at, func(m *api.Image) *int { return &m.Deparse[i] }, []int{6, 0, 1, 2, 3, 5}[:i]...)
	}
	for part, sums := range map[int]func(m *api.Image) *[]api.Sum{10: func(m *api.Image) *[]api.Sum { return &m.Checks }, 11: func(m *api.Image) *[]api.Sum { return &m.Updates }} {
		f.add(part, 0, -1, api.ErrLong, "count", func(m *api.Image) { *sums(m) = many(*sums(m), 4) })
		m := right()
		for i := range *sums(&m) {
			at := strconv.Itoa(i)
			f.number(part, i, 0, api.ErrNone, "slot "+at, func(m *api.Image) *int { return &(*sums(m))[i].Slot }, append(outside(), -1, 7, 32)...)
			f.number(part, i, 0, api.ErrNone, "field "+at, func(m *api.Image) *int { return &(*sums(m))[i].Field }, append(outside(), -1, 5, 16)...)
			for _, x := range []api.Sum{{Slot: 0, Field: 0}, {Slot: 0, Field: 1}, {Slot: 1, Field: 2}, {Slot: 4, Field: 2}, {Slot: 5, Field: 1}, {Slot: 5, Field: 3}} {
				f.add(part, i, 1, api.ErrWidth, "slot "+at, func(m *api.Image) { (*sums(m))[i] = x })
			}
		}
	}
	f.units()
}

func (f *flaws) units() {
	f.add(12, 0, -1, api.ErrLong, "count", func(m *api.Image) { m.Regs = many(m.Regs, 8) })
	f.add(13, 0, -1, api.ErrLong, "count", func(m *api.Image) { m.Counters = many(m.Counters, 8) })
	f.add(14, 0, -1, api.ErrLong, "count", func(m *api.Image) { m.Meters = many(m.Meters, 8) })
	for i := range 3 {
		at := " " + strconv.Itoa(i)
		log := append(outside(), -1, 0, 9)
		ahead := []string{"ONE", "Two"}[:i]
		f.names(13, i, func(m *api.Image, n int) *string { return &m.Counters[n].Name }, ahead...)
		f.number(13, i, 2, api.ErrRange, "log"+at, func(m *api.Image) *int { return &m.Counters[i].Log }, log...)
		if i == 2 {
			continue
		}
		f.names(12, i, func(m *api.Image, n int) *string { return &m.Regs[n].Name }, ahead...)
		f.number(12, i, 2, api.ErrWidth, "width"+at, func(m *api.Image) *int { return &m.Regs[i].W }, append(outside(), -1, 0, 129)...)
		f.number(12, i, 3, api.ErrRange, "log"+at, func(m *api.Image) *int { return &m.Regs[i].Log }, log...)
		f.names(14, i, func(m *api.Image, n int) *string { return &m.Meters[n].Name }, ahead...)
		f.number(14, i, 2, api.ErrRange, "log"+at, func(m *api.Image) *int { return &m.Meters[i].Log }, log...)
		f.number(14, i, 2, api.ErrRange, "rate"+at, func(m *api.Image) *int { return &m.Meters[i].Rate }, append(outside(), -1, 65536)...)
		f.number(14, i, 2, api.ErrRange, "burst"+at, func(m *api.Image) *int { return &m.Meters[i].Burst }, append(outside(), -1, 0)...)
	}
}

func allFlaws() []flaw {
	var f flaws
	f.heads()
	f.states()
	f.actions()
	f.tables()
	f.control(7, func(m *api.Image) *[]api.Node { return &m.Ingress })
	f.control(8, func(m *api.Image) *[]api.Node { return &m.Egress })
	f.tails()
	return f.l
}

// Promise 10.1: each thing that isn't so is told, with its part and its number.
func TestCheckTellsEachFlaw(t *testing.T) {
	is(t, asked(t, right()), found{}, "Check of what is right")
	for _, f := range allFlaws() {
		m := right()
		f.in(&m)
		is(t, asked(t, m), f.found, "Check with a flaw at", f.spot, f.rank)
		is(t, firstFlaw(m), f.found, "the model with a flaw at", f.spot, f.rank)
	}
}

// Promise 10.1: of two things that aren't so the first one is told.
func TestCheckTellsTheFirstFlaw(t *testing.T) {
	seen := map[[2]string]int{}
	all := allFlaws()
	for _, first := range all {
		for _, second := range all {
			// Two spots are put together in a few ways only, for there are many.
			pair := [2]string{first.spot + " " + strconv.Itoa(first.rank), second.spot + " " + strconv.Itoa(second.rank)}
			if first.spot == second.spot || !first.before(second) || seen[pair] >= 2 {
				continue
			}
			seen[pair]++
			m := right()
			if !both(&m, first, second) {
				continue
			}
			is(t, asked(t, m), first.found, "Check with flaws at", first.spot, first.rank, second.spot, second.rank)
		}
	}
}

// both puts two flaws together, if the second one leaves a place for the first.
func both(m *api.Image, first, second flaw) (ok bool) {
	defer func() { ok = recover() == nil }()
	second.in(m)
	first.in(m)
	return true
}

// Promise 10.1: what is at an edge is right.
func TestCheckLetsThrough(t *testing.T) {
	is(t, asked(t, least()), found{}, "Check of the least image")
	for i, in := range fits() {
		m := right()
		in(&m)
		is(t, asked(t, m), found{}, "Check of what is at the edge", i)
		is(t, firstFlaw(m), found{}, "the model of what is at the edge", i)
	}
}

// named are things with names of their own.
func named[T any](l []T, most int, put func(x *T, s string)) []T {
	l = slices.Clone(l)
	for i := len(l); i < most; i++ {
		x := l[0]
		put(&x, "name-"+strconv.Itoa(i))
		l = append(l, x)
	}
	return l
}

// fits change an image that is right, and leave it right.
func fits() []func(m *api.Image) {
	return []func(m *api.Image){
		func(m *api.Image) { *m = least() },
		func(m *api.Image) { m.Name = "a.b-c.." },
		func(m *api.Image) { m.Ports, m.Depth, m.Rounds = 1, 1, 0 },
		func(m *api.Image) {
			m.Headers = named(m.Headers, 16, func(x *api.Header, s string) { x.Name = s })
			m.Insts[4].Header = 0
			m.Actions[2].Code = nil
			m.Tables[2].Keys = m.Tables[2].Keys[:2]
			m.Updates = nil
		},
		func(m *api.Image) { m.Insts = named(m.Insts, 16, func(x *api.Inst, s string) { x.Name = s }) },
		func(m *api.Image) { m.Metas = named(m.Metas, 16, func(x *api.Field, s string) { x.Name = s }) },
		func(m *api.Image) {
			m.States = named(m.States, 16, func(x *api.State, s string) { x.Name = s })
			m.States[0].Next = 15
		},
		func(m *api.Image) {
			m.Actions = named(m.Actions, 32, func(x *api.Action, s string) { x.Name = s })
			m.Tables[0].Actions[0] = 31
		},
		func(m *api.Image) {
			m.Tables = named(m.Tables, 8, func(x *api.Table, s string) { x.Name = s })
			m.Ingress[0].A = 7
		},
		func(m *api.Image) {
			m.Regs = named(m.Regs, 8, func(x *api.Reg, s string) { x.Name = s })
			m.Actions[2].Code[5].A = 7
		},
		func(m *api.Image) {
			m.Counters = named(m.Counters, 8, func(x *api.Counter, s string) { x.Name = s })
			m.Actions[2].Code[11].A = 7
		},
		func(m *api.Image) {
			m.Meters = named(m.Meters, 8, func(x *api.Meter, s string) { x.Name = s })
			m.Actions[2].Code[12].A = 7
		},
		func(m *api.Image) {
			m.Ingress = nil
			for i := range 32 {
				m.Ingress = append(m.Ingress, api.Node{Kind: api.NodeValid, Yes: i + 1, No: 32})
			}
			m.Egress = []api.Node{}
		},
		func(m *api.Image) { // all the slots there may be
			m.Insts = append(m.Insts[:0:0], m.Insts...)
			for i := range 6 {
				m.Insts = append(m.Insts, api.Inst{Name: "more" + strconv.Itoa(i), Depth: 4})
			}
			m.Insts = append(m.Insts, api.Inst{Name: "rest"})
			m.Deparse = nil
			for i := range 32 {
				m.Deparse = append(m.Deparse, 31-i)
			}
			m.States[3].Exts = []api.Ext{{Kind: api.ExtOne, N: 31}, {Kind: api.ExtNext, N: 10}, {Kind: api.ExtOne, N: 31}, {Kind: api.ExtNext, N: 10}}
		},
		func(m *api.Image) { m.Checks = slices.Repeat(m.Checks, 2) },
		func(m *api.Image) { m.States[3].Keys = []api.Key{{Kind: api.KeyMeta, A: 9}} },
		func(m *api.Image) { m.States[3].Keys = slices.Repeat([]api.Key{{Kind: api.KeyLook, A: 7, B: 32}}, 4) },
		func(m *api.Image) { m.States[3].Cases = []api.Case{} },
		func(m *api.Image) { m.States[2].Cases[0].Value = api.Vec{W: 128} },
		func(m *api.Image) {
			m.States[0].Name, m.Actions[0].Name, m.Tables[0].Name, m.Metas[0].Name, m.Insts[0].Name, m.Headers[0].Name = "x", "x", "x", "x", "x", "x"
		},
		func(m *api.Image) {
			m.Actions[4].Params = []int{128, 1}
			m.Tables[2].Default.Args = []api.Vec{ones(128), vecOf(1, 0)}
			m.Ingress[4].Args = []api.Vec{vecOf(128, 7), vecOf(1, 1)}
		},
	}
}

// Each number, text and list of an image is changed, one by one and then several at a time, and Check is held against the model.

// leaf is a place in an image.
type leaf func(m reflect.Value) reflect.Value

func leaves(v reflect.Value, at leaf) []leaf {
	l := []leaf{}
	switch v.Kind() {
	case reflect.Struct:
		for i := range v.NumField() {
			l = append(l, leaves(v.Field(i), func(m reflect.Value) reflect.Value { return at(m).Field(i) })...)
		}
	case reflect.Slice:
		l = append(l, at)
		for i := range v.Len() {
			l = append(l, leaves(v.Index(i), func(m reflect.Value) reflect.Value { return at(m).Index(i) })...)
		}
	default:
		l = append(l, at)
	}
	return l
}

// changes are what a place is changed to.
func changes(v reflect.Value) []reflect.Value {
	var l []reflect.Value
	switch v.Kind() {
	case reflect.Int:
		for _, n := range []int{-3, -2, -1, 0, 1, 2, 3, 4, 5, 6, 7, 8, 9, 10, 11, 16, 17, 24, 32, 33, 63, 64, 65, 127, 128, 129, 255, 256, 257, 1024, 1025, 4096, 65535, 65536, 1 << 20, 1<<20 + 1, math.MaxInt, math.MinInt} {
			l = append(l, reflect.ValueOf(n).Convert(v.Type()))
		}
	case reflect.Uint64:
		for _, n := range []uint64{0, 1, 2, 3, 255, 256, 1 << 16, 1 << 63, math.MaxUint64} {
			l = append(l, reflect.ValueOf(n))
		}
	case reflect.String:
		for _, s := range append(wrongNames(), "z", "ETH", "One", "tag", "DROP", "wide") {
			l = append(l, reflect.ValueOf(s))
		}
	case reflect.Slice:
		l = append(l, reflect.Zero(v.Type()), reflect.MakeSlice(v.Type(), 1, 1))
		for _, n := range []int{2, 4, 5, 8, 9, 16, 17, 32, 33, 64, 65} {
			more := reflect.MakeSlice(v.Type(), n, n)
			for i := range n {
				if v.Len() > 0 {
					more.Index(i).Set(v.Index(i % v.Len()))
				}
			}
			l = append(l, more)
		}
		for i := range v.Len() {
			less := reflect.MakeSlice(v.Type(), 0, v.Len())
			l = append(l, reflect.AppendSlice(reflect.AppendSlice(less, v.Slice(0, i)), v.Slice(i+1, v.Len())))
		}
	}
	return l
}

func TestCheckAgainstTheModel(t *testing.T) {
	m := right()
	for _, at := range leaves(reflect.ValueOf(&m).Elem(), func(m reflect.Value) reflect.Value { return m }) {
		for _, to := range changes(at(reflect.ValueOf(&m).Elem())) {
			m := right()
			at(reflect.ValueOf(&m).Elem()).Set(to)
			is(t, asked(t, m), firstFlaw(m), "Check of", m)
		}
	}
}

func TestCheckOfSeveralChangesAgainstTheModel(t *testing.T) {
	m := right()
	all := leaves(reflect.ValueOf(&m).Elem(), func(m reflect.Value) reflect.Value { return m })
	x := uint64(10)
	let := 0
	for range 20000 {
		m := right()
		for range 2 + ground.Number(&x)%3 {
			at := all[ground.Number(&x)%uint64(len(all))]
			change(reflect.ValueOf(&m).Elem(), at, &x)
		}
		want := firstFlaw(m)
		is(t, asked(t, m), want, "Check of", m)
		if want == (found{}) {
			let++
			refersToWhatIsThere(t, m)
		}
	}
	if let < 50 {
		t.Errorf("%d images are right; want some more", let)
	}
}

// change changes a place, if it is still there.
func change(m reflect.Value, at leaf, x *uint64) {
	defer func() { recover() }()
	l := changes(at(m))
	at(m).Set(l[ground.Number(x)%uint64(len(l))])
}

// Promise 10.4: what is let through refers to nothing that isn't there.
func refersToWhatIsThere(t *testing.T, m api.Image) {
	t.Helper()
	there := func(ok bool, what ...any) {
		t.Helper()
		if !ok {
			t.Fatalf("%v isn't there: %v", what, m)
		}
	}
	key := func(l []api.Key) {
		_, ok := image.Key(m, l)
		there(ok, l)
	}
	slot := func(i int) {
		_, ok := image.Slot(m, i)
		there(ok, "slot", i)
	}
	for _, s := range m.States {
		key(s.Keys)
		for _, x := range s.Exts {
			if x.Kind == api.ExtOne {
				slot(x.N)
			}
		}
		for _, x := range append(slices.Clone(s.Cases), api.Case{Next: s.Next}) {
			there(x.Next == api.Accept || x.Next == api.Reject || has(m.States, x.Next), "state", x.Next)
		}
	}
	for _, x := range m.Actions {
		there(image.Code(m, x.Params, x.Code) == api.OK, x)
	}
	for _, x := range m.Tables {
		key(x.Keys)
		for _, a := range append(slices.Clone(x.Actions), x.Default.Action) {
			there(has(m.Actions, a), "action", a)
		}
	}
	for _, x := range m.Deparse {
		slot(x)
	}
	for _, x := range slices.Concat(m.Checks, m.Updates) {
		w, ok := image.Field(m, x.Slot, x.Field)
		there(ok && w == 16, x)
	}
}

// P1: Check ends, and doesn't panic, on what is far from an image.
func TestCheckOfMuch(t *testing.T) {
	big := 1 << 16
	for i, in := range []func(m *api.Image){
		func(m *api.Image) { m.Headers = make([]api.Header, big) },
		func(m *api.Image) { m.Headers[0].Fields = make([]api.Field, big) },
		func(m *api.Image) { m.Insts = make([]api.Inst, big) },
		func(m *api.Image) { m.Metas = make([]api.Field, big) },
		func(m *api.Image) { m.States = make([]api.State, big) },
		func(m *api.Image) { m.States[0].Exts = make([]api.Ext, big) },
		func(m *api.Image) { m.States[0].Keys = make([]api.Key, big) },
		func(m *api.Image) { m.States[0].Cases = make([]api.Case, big) },
		func(m *api.Image) { m.Actions = make([]api.Action, big) },
		func(m *api.Image) { m.Actions[0].Params = make([]int, big) },
		func(m *api.Image) { m.Actions[0].Code = everyStop(big) },
		func(m *api.Image) { m.Tables = make([]api.Table, big) },
		func(m *api.Image) { m.Tables[0].Keys = make([]api.Key, big) },
		func(m *api.Image) { m.Tables[0].Actions = make([]int, big) },
		func(m *api.Image) { m.Tables[0].Default.Args = make([]api.Vec, big) },
		func(m *api.Image) { m.Ingress = make([]api.Node, big) },
		func(m *api.Image) { m.Ingress[1].Code = everyStop(big) },
		func(m *api.Image) { m.Egress[3].Args = make([]api.Vec, big) },
		func(m *api.Image) { m.Deparse = make([]int, big) },
		func(m *api.Image) { m.Checks = make([]api.Sum, big) },
		func(m *api.Image) { m.Meters = make([]api.Meter, big) },
	} {
		m := right()
		in(&m)
		is(t, asked(t, m), firstFlaw(m), "Check of much", i)
		is(t, asked(t, m).e, api.ErrLong, "Check of much", i)
	}
	is(t, asked(t, api.Image{}), found{0, 0, api.ErrForm}, "Check of the zero image")
}

func everyStop(n int) []api.Ins {
	l := make([]api.Ins, n)
	fill(l)
	return l
}

// A flaw is new memory, and what is handed in stays.
func TestCheckChangesNothing(t *testing.T) {
	for _, f := range allFlaws()[:200] {
		m, kept := right(), right()
		f.in(&m)
		f.in(&kept)
		first, second := image.Check(m), image.Check(m)
		first.(*image.Flaw).N = 77
		is(t, tell(image.Why(second)), f.found, "Check behind a flaw that was changed")
		is(t, m, kept, "Check changed")
	}
}
