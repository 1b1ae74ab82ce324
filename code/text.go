package code

import (
	"strconv"
	"strings"

	"shunter/api"
	"shunter/vec"
)

var names = [api.Ops]string{
	api.OpPush:     "push",
	api.OpField:    "field",
	api.OpMeta:     "meta",
	api.OpParam:    "param",
	api.OpValid:    "valid",
	api.OpReg:      "reg",
	api.OpNot:      "not",
	api.OpNeg:      "neg",
	api.OpShl:      "shl",
	api.OpShr:      "shr",
	api.OpSlice:    "slice",
	api.OpCast:     "cast",
	api.OpAdd:      "add",
	api.OpSub:      "sub",
	api.OpAddSat:   "add-sat",
	api.OpSubSat:   "sub-sat",
	api.OpAnd:      "and",
	api.OpOr:       "or",
	api.OpXor:      "xor",
	api.OpCat:      "cat",
	api.OpEq:       "eq",
	api.OpLess:     "less",
	api.OpPutField: "put-field",
	api.OpPutMeta:  "put-meta",
	api.OpPutReg:   "put-reg",
	api.OpShow:     "show",
	api.OpHide:     "hide",
	api.OpPushHead: "push-head",
	api.OpPopHead:  "pop-head",
	api.OpCount:    "count",
	api.OpMeter:    "meter",
	api.OpJump:     "jump",
	api.OpJumpZero: "jump-zero",
	api.OpJumpGone: "jump-gone",
	api.OpStop:     "stop",
}

// Name is an operation's name.
func Name(o api.Op) string {
	if !isOp(o) {
		return ""
	}
	return names[o]
}

// Find is the operation of a name.
func Find(s string) (api.Op, bool) {
	for o := range api.Ops {
		if names[o] == s {
			return o, true
		}
	}
	return 0, false
}

// Text is an instruction's text.
func Text(x api.Ins) string {
	if !isOp(x.Op) {
		return ""
	}
	return strings.Join(append([]string{Name(x.Op)}, words(x)...), " ")
}

// words are what an instruction names, may it be or not.
func words(x api.Ins) []string {
	switch step(x).(type) {
	case Push:
		return []string{vec.Text(x.V)}
	case Place, Part, Heads, Gone:
		return []string{strconv.Itoa(x.A), strconv.Itoa(x.B)}
	case Cell, Slot, Jump:
		return []string{strconv.Itoa(x.A)}
	case One:
		// Of these, not and neg have no number.
		if x.Op != api.OpNot && x.Op != api.OpNeg {
			return []string{strconv.Itoa(x.A)}
		}
	}
	return nil
}
