package ground

import "shunter/api"

// Right is let through by the verifier. It has each operation and each kind of things; a packet can come to all of them but one table, whose key isn't surely there anywhere.
func Right() api.Image {
	return Changed(func(m *api.Image) {
		m.States = rightStates()
		m.Actions[2].Code = EveryOp()
		m.Actions[5] = api.Action{Name: "five", Params: []int{16, 128}, Code: []api.Ins{
			{Op: api.OpJumpGone, A: 6, B: 4}, {Op: api.OpField, A: 6, B: 2}, {Op: api.OpPutMeta, A: api.MetaOut}, {Op: api.OpStop},
			{Op: api.OpShow, A: 6}, {Op: api.OpParam}, {Op: api.OpPutField, A: 6, B: 3}, {Op: api.OpParam, A: 1}, {Op: api.OpPutMeta, A: 9},
		}}
		m.Ingress = []api.Node{
			{Kind: api.NodeApply, Yes: 1, No: 1},
			{Kind: api.NodeValid, A: 6, Yes: 2, No: 4},
			{Kind: api.NodeIf, Code: []api.Ins{{Op: api.OpField, A: 6, B: 2}, {Op: api.OpPush, V: vecOf(8, 1)}, {Op: api.OpLess}}, Yes: 3, No: 4},
			{Kind: api.NodeDo, A: 5, Args: []api.Vec{vecOf(16, 0xbeef), wide()}, Yes: 4},
			{Kind: api.NodeValid, A: 5, Yes: 5, No: 6},
			{Kind: api.NodeApply, A: 1, Yes: 6, No: 6},
		}
		do := m.Egress[3]
		do.Yes = 6
		m.Egress = []api.Node{
			{Kind: api.NodeValid, Yes: 1, No: 3},
			{Kind: api.NodeIf, Code: []api.Ins{{Op: api.OpMeta, A: api.MetaAgain}, {Op: api.OpNot}}, Yes: 2, No: 3},
			{Kind: api.NodeApply, A: 0, Yes: 3, No: 3},
			{Kind: api.NodeApply, A: 3, Yes: 5, No: 5},
			{Kind: api.NodeApply, A: 2, Yes: 5, No: 5}, // no node leads there
			do,
		}
	})
}

// rightStates find an eth, tags, an ip, and at times an in and an odd.
func rightStates() []api.State {
	eth := api.Key{Kind: api.KeyField, B: 2}
	return []api.State{
		{Name: "start", Exts: []api.Ext{{Kind: api.ExtOne}}, Keys: []api.Key{eth},
			Cases: []api.Case{{Value: vecOf(16, 0x8100), Mask: vecOf(16, 0xffff), Next: 1}, {Value: vecOf(16, 0x0800), Mask: vecOf(16, 0xff00), Next: 2}}, Next: api.Reject},
		{Name: "tag", Exts: []api.Ext{{Kind: api.ExtNext, N: 1}, {Kind: api.ExtSkip, N: 1}}, Keys: []api.Key{eth, {Kind: api.KeyLook, A: 3, B: 1}, {Kind: api.KeyMeta, A: 8}},
			Cases: []api.Case{{Value: vecOf(25, 0x100), Mask: vecOf(25, 0x100), Next: 1}}, Next: 2},
		{Name: "ip", Exts: []api.Ext{{Kind: api.ExtOne, N: 4}}, Keys: []api.Key{{Kind: api.KeyField, A: 4}},
			Cases: []api.Case{{Value: vecOf(4, 6), Mask: vecOf(4, 15), Next: 3}}, Next: api.Accept},
		{Name: "last", Exts: []api.Ext{{Kind: api.ExtOne, N: 6}, {Kind: api.ExtNext, N: 3}, {Kind: api.ExtSkip, N: 1}}, Next: api.Accept},
	}
}

// EveryOp has each operation but param, fits together without parameters, and asks for fields of what it shows.
func EveryOp() []api.Ins {
	four := api.Ins{Op: api.OpPush, V: vecOf(4, 5)}
	bit := api.Ins{Op: api.OpPush, V: vecOf(1, 1)}
	return []api.Ins{
		{Op: api.OpShow, A: 1}, {Op: api.OpShow, A: 2}, {Op: api.OpShow, A: 4}, {Op: api.OpShow, A: 5},
		{Op: api.OpMeta, A: 9}, {Op: api.OpField, A: 5, B: 3}, {Op: api.OpEq}, {Op: api.OpNot}, {Op: api.OpReg}, {Op: api.OpJumpZero, A: 13},
		bit, bit, {Op: api.OpPutReg},
		{Op: api.OpField, A: 1}, {Op: api.OpNeg}, {Op: api.OpShl, A: 1}, {Op: api.OpField, A: 2, B: 1}, {Op: api.OpCat}, {Op: api.OpShr, A: 2},
		{Op: api.OpField, A: 4}, {Op: api.OpAdd}, {Op: api.OpField, A: 4, B: 1}, {Op: api.OpSub}, four, {Op: api.OpAddSat}, four, {Op: api.OpSubSat}, four, {Op: api.OpAnd}, four, {Op: api.OpOr}, four, {Op: api.OpXor},
		{Op: api.OpCount, A: 2}, {Op: api.OpValid, A: 6}, {Op: api.OpMeter}, {Op: api.OpPutMeta, A: 10},
		{Op: api.OpMeta, A: api.MetaSize}, {Op: api.OpSlice, A: 15, B: 8}, {Op: api.OpMeta}, {Op: api.OpLess}, {Op: api.OpCast, A: 16}, {Op: api.OpPutField, A: 5, B: 4},
		{Op: api.OpHide}, {Op: api.OpPushHead, A: 1, B: 4}, {Op: api.OpPopHead, A: 3, B: 1},
		{Op: api.OpJumpGone, A: 6, B: 48}, {Op: api.OpJump, A: 48}, {Op: api.OpStop},
	}
}
