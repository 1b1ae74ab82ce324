package ground

import (
	"math"
	"slices"

	"shunter/api"
)

// Image has no flaw, a thing of each kind, and many of its numbers at an edge.
func Image() api.Image {
	return api.Image{
		Name: "right.one", Ports: 64, Depth: 32, Rounds: 4,
		Headers: []api.Header{
			{Name: "eth", Fields: []api.Field{{Name: "dst", W: 48}, {Name: "src", W: 48}, {Name: "typ", W: 16}}},
			{Name: "tag", Fields: []api.Field{{Name: "pri", W: 3}, {Name: "dei", W: 1}, {Name: "id", W: 12}, {Name: "typ", W: 16}}},
			{Name: "ip", Fields: []api.Field{{Name: "ver", W: 4}, {Name: "ihl", W: 4}, {Name: "ttl", W: 8}, {Name: "sum", W: 16}}, Var: 40, By: 1, Mul: 4, Sub: 20},
			{Name: "odd", Fields: []api.Field{{Name: "a", W: 8}, {Name: "b", W: 16}, {Name: "c", W: 8}, {Name: "d", W: 128}, {Name: "e", W: 16}}},
		},
		// The slots: 0; 1, 2, 3; 4; 5; 6.
		Insts:   []api.Inst{{Name: "eth"}, {Name: "tags", Header: 1, Depth: 3}, {Name: "ip", Header: 2}, {Name: "odd", Header: 3, Depth: 1}, {Name: "in", Header: 2}},
		Metas:   []api.Field{{Name: "mark", W: 8}, {Name: "wide", W: 128}, {Name: "bit", W: 1}},
		States:  imageStates(),
		Actions: imageActions(),
		Tables:  imageTables(),
		Ingress: []api.Node{
			{Kind: api.NodeApply, A: 3, Yes: 1, No: 5},
			{Kind: api.NodeIf, Code: []api.Ins{{Op: api.OpValid, A: 6}}, Yes: 2, No: 3},
			{Kind: api.NodeDo, A: 1, Args: []api.Vec{vecOf(8, 255), wide()}, Yes: 4},
			{Kind: api.NodeValid, A: 6, Yes: 5, No: 4},
			{Kind: api.NodeDo, A: 4, Yes: 5},
		},
		Egress: []api.Node{
			{Kind: api.NodeValid, Yes: 1, No: 4},
			{Kind: api.NodeIf, Yes: 3, No: 4},
			{Kind: api.NodeApply, Yes: 3, No: 4},
			{Kind: api.NodeDo, A: 3, Args: []api.Vec{vecOf(1, 0), vecOf(2, 3), vecOf(3, 4), vecOf(4, 5), vecOf(5, 6), vecOf(6, 7), vecOf(7, 8), vecOf(8, 9)}, Yes: 4},
		},
		Deparse:  []int{6, 0, 1, 2, 3, 5, 4},
		Checks:   []api.Sum{{Slot: 4, Field: 3}, {Slot: 0, Field: 2}},
		Updates:  []api.Sum{{Slot: 6, Field: 3}, {Slot: 6, Field: 3}, {Slot: 2, Field: 3}, {Slot: 5, Field: 4}},
		Regs:     []api.Reg{{Name: "one", W: 1, Log: 1}, {Name: "two", W: 128, Log: 8}},
		Counters: []api.Counter{{Name: "one", Log: 1}, {Name: "two", Log: 8}, {Name: "three", Log: 4}},
		Meters:   []api.Meter{{Name: "one", Log: 1, Rate: 0, Burst: 1}, {Name: "two", Log: 8, Rate: 65535, Burst: 1 << 20}},
	}
}

func imageStates() []api.State {
	return []api.State{
		{Name: "start", Exts: []api.Ext{{Kind: api.ExtOne}}, Keys: []api.Key{{Kind: api.KeyField, B: 2}},
			Cases: []api.Case{{Value: vecOf(16, 0x8100), Mask: vecOf(16, 0xffff), Next: 1}, {Value: vecOf(16, 0x0800), Mask: vecOf(16, 0xff00), Next: 2}}, Next: api.Accept},
		{Name: "tag", Exts: []api.Ext{{Kind: api.ExtNext, N: 1}, {Kind: api.ExtSkip, N: 1}}, Keys: []api.Key{{Kind: api.KeyField, A: 1, B: 3}, {Kind: api.KeyLook, B: 1}, {Kind: api.KeyMeta, A: 8}},
			Cases: slices.Repeat([]api.Case{{Value: vecOf(25, 0), Mask: vecOf(25, 0), Next: api.Reject}}, 8), Next: 1},
		{Name: "ip", Exts: []api.Ext{{Kind: api.ExtOne, N: 6}, {Kind: api.ExtSkip, N: 64}, {Kind: api.ExtNext, N: 3}, {Kind: api.ExtOne, N: 4}},
			Keys:  []api.Key{{Kind: api.KeyLook, A: 1024, B: 64}, {Kind: api.KeyMeta, A: 10}, {Kind: api.KeyLook, B: 62}, {Kind: api.KeyMeta, A: api.MetaDrop}},
			Cases: []api.Case{{Value: wide(), Mask: wide(), Next: 3}}, Next: 0},
		{Name: "last", Next: api.Reject},
	}
}

func imageActions() []api.Action {
	var long []api.Ins
	for i := range 64 {
		long = append(long, api.Ins{Op: api.OpJump, A: i + 1})
	}
	return []api.Action{
		{Name: "drop", Code: []api.Ins{{Op: api.OpPush, V: vecOf(1, 1)}, {Op: api.OpPutMeta, A: api.MetaDrop}}},
		{Name: "send", Params: []int{8, 128}, Code: []api.Ins{{Op: api.OpParam}, {Op: api.OpPutMeta, A: api.MetaOut}, {Op: api.OpParam, A: 1}, {Op: api.OpPutMeta, A: 9}}},
		{Name: "every", Code: EveryIns()},
		{Name: "long", Params: []int{1, 2, 3, 4, 5, 6, 7, 8}, Code: long},
		{Name: "none"}, {Name: "five"}, {Name: "six"}, {Name: "seven"}, {Name: "eight"},
	}
}

// EveryIns has an instruction of each operation that names something, mostly of the last thing that Image has.
func EveryIns() []api.Ins {
	return []api.Ins{
		{Op: api.OpField, A: 6, B: 3}, {Op: api.OpPutField, A: 5, B: 4}, {Op: api.OpMeta, A: 10}, {Op: api.OpPutMeta, A: 10}, {Op: api.OpReg, A: 1}, {Op: api.OpPutReg, A: 1},
		{Op: api.OpValid, A: 6}, {Op: api.OpShow, A: 6}, {Op: api.OpHide, A: 6}, {Op: api.OpPushHead, A: 3, B: 4}, {Op: api.OpPopHead, A: 1, B: 1}, {Op: api.OpCount, A: 2}, {Op: api.OpMeter, A: 1},
		{Op: api.OpJump, A: 14}, {Op: api.OpJumpZero, A: 17}, {Op: api.OpJumpGone, A: 6, B: 17}, {Op: api.OpStop},
	}
}

func imageTables() []api.Table {
	return []api.Table{
		{Name: "exact", Kind: api.Exact, Keys: []api.Key{{Kind: api.KeyField}}, Actions: []int{0, 1}, Default: api.Call{Action: 1, Args: []api.Vec{vecOf(8, 1), vecOf(128, 2)}}, Size: 1},
		{Name: "lpm", Kind: api.Lpm, Keys: []api.Key{{Kind: api.KeyField, A: 5, B: 3}}, Actions: []int{8, 7, 6, 5, 4, 2, 1, 0}, Default: api.Call{Action: 2}, Size: 256},
		{Name: "ternary", Kind: api.Ternary, Keys: []api.Key{{Kind: api.KeyField, A: 5, B: 1}, {Kind: api.KeyMeta, A: 10}, {Kind: api.KeyField, A: 6, B: 2}, {Kind: api.KeyMeta, A: 8}}, Actions: []int{4}, Default: api.Call{Action: 4}, Size: 10},
		{Name: "span", Kind: api.Span, Keys: []api.Key{{Kind: api.KeyMeta, A: 0}, {Kind: api.KeyMeta, A: 7}}, Actions: []int{0}, Default: api.Call{Action: 0}, Size: 255},
	}
}

// LeastImage has as little as there must be.
func LeastImage() api.Image {
	return api.Image{Name: "m", States: []api.State{{Name: "s", Next: api.Accept}}, Ports: 1, Depth: 1}
}

func vecOf(w int, lo uint64) api.Vec { return api.Vec{W: w, Lo: lo} }

func wide() api.Vec { return api.Vec{W: api.MaxWidth, Hi: math.MaxUint64, Lo: math.MaxUint64} }
