package unpack

import (
	"shunter/api"
	"shunter/wire"
)

func instructions(r *wire.Reader) []api.Ins {
	return list(r, api.MaxCode, instruction)
}

// instruction asks of no number whether it may be: that is the image's.
func instruction(r *wire.Reader) api.Ins {
	op := below(r, api.Ops)
	switch op {
	case api.OpPush:
		return api.Ins{Op: op, V: r.Vec()}
	case api.OpField, api.OpPutField, api.OpSlice, api.OpPushHead, api.OpPopHead, api.OpJumpGone:
		return api.Ins{Op: op, A: single(r), B: single(r)}
	case api.OpMeta, api.OpPutMeta, api.OpParam, api.OpReg, api.OpPutReg, api.OpCount, api.OpMeter,
		api.OpValid, api.OpShow, api.OpHide, api.OpShl, api.OpShr, api.OpCast, api.OpJump, api.OpJumpZero:
		return api.Ins{Op: op, A: single(r)}
	}
	return api.Ins{Op: op}
}
