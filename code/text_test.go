package code_test

import (
	"math"
	"strings"
	"testing"

	"shunter/api"
	"shunter/code"
)

// found is what Find tells.
type found struct {
	o  api.Op
	ok bool
}

func tellFound(o api.Op, ok bool) found { return found{o, ok} }

// Promises 9.3 and 9.4: names, one to one.

func TestNames(t *testing.T) {
	seen := map[string]bool{}
	for o, r := range table() {
		is(t, code.Name(api.Op(o)), r.name, "Name", o)
		is(t, tellFound(code.Find(r.name)), found{api.Op(o), true}, "Find", r.name)
		is(t, seen[r.name], false, "a name twice:", r.name)
		seen[r.name] = true
	}
	for _, o := range noOps() {
		is(t, code.Name(o), "", "Name", o)
	}
}

func TestFindNone(t *testing.T) {
	l := []string{"", " ", "-", "jmp", "putfield", "put_field", "put field", "nop", "0", "7", "\x00", "\xff", "push push", strings.Repeat("push", 10000), "ÄDD"}
	for _, r := range table() {
		l = append(l, strings.ToUpper(r.name), strings.ToUpper(r.name[:1])+r.name[1:], r.name+" ", " "+r.name, r.name+"\x00", r.name+"s", r.name[1:]+"-", r.name+";", r.name+"-")
	}
	for _, s := range l {
		is(t, tellFound(code.Find(s)), found{}, "Find", s)
	}
}

// Promise 9.3: an instruction's text, may it be or not.

func TestText(t *testing.T) {
	eachIns(func(x api.Ins) {
		want := ""
		if x.Op >= 0 && x.Op < api.Ops {
			want = table()[x.Op].text(x)
		}
		if got := code.Text(x); got != want {
			t.Errorf("Text(%v) = %q; want %q", x, got, want)
		}
	})
}

func TestTextEdges(t *testing.T) {
	for _, c := range []struct {
		x    api.Ins
		want string
	}{
		{api.Ins{Op: api.OpSlice, A: 7}, "slice 7 0"}, {api.Ins{V: api.Vec{W: 8, Lo: 255}}, "push 8'ff"}, {api.Ins{A: 3, B: 4, V: api.Vec{W: 8, Lo: 255}}, "push 8'ff"}, {api.Ins{V: api.Vec{W: 128, Hi: 1}}, "push 128'10000000000000000"}, {api.Ins{V: api.Vec{W: 8, Lo: 256}}, "push "},
		{api.Ins{Op: api.OpField, A: 31, B: 15}, "field 31 15"}, {api.Ins{Op: api.OpPutField, A: -1, B: 100}, "put-field -1 100"}, {api.Ins{Op: api.OpMeta, A: 23, B: 4}, "meta 23"}, {api.Ins{Op: api.OpPutMeta, A: 1}, "put-meta 1"}, {api.Ins{Op: api.OpParam}, "param 0"}, {api.Ins{Op: api.OpValid, A: 10}, "valid 10"},
		{api.Ins{Op: api.OpReg, A: 7}, "reg 7"}, {api.Ins{Op: api.OpPutReg, A: 8}, "put-reg 8"}, {api.Ins{Op: api.OpNot}, "not"}, {api.Ins{Op: api.OpNot, A: 5, B: 6}, "not"}, {api.Ins{Op: api.OpNeg, A: 5}, "neg"}, {api.Ins{Op: api.OpShl, A: 128}, "shl 128"}, {api.Ins{Op: api.OpShr, A: math.MinInt}, "shr -9223372036854775808"}, {api.Ins{Op: api.OpCast, A: 16}, "cast 16"},
		{api.Ins{Op: api.OpAddSat}, "add-sat"}, {api.Ins{Op: api.OpCat, A: 1, B: 1, V: api.Vec{W: 1}}, "cat"}, {api.Ins{Op: api.OpShow, A: 2}, "show 2"}, {api.Ins{Op: api.OpHide, A: 2, B: 2}, "hide 2"}, {api.Ins{Op: api.OpPushHead, A: 1, B: 4}, "push-head 1 4"}, {api.Ins{Op: api.OpPopHead, A: 15, B: math.MaxInt}, "pop-head 15 9223372036854775807"},
		{api.Ins{Op: api.OpCount, A: 3}, "count 3"}, {api.Ins{Op: api.OpMeter, A: 3}, "meter 3"}, {api.Ins{Op: api.OpJump, A: 64}, "jump 64"}, {api.Ins{Op: api.OpJumpZero, A: 64}, "jump-zero 64"}, {api.Ins{Op: api.OpJumpGone, A: 3, B: 64}, "jump-gone 3 64"}, {api.Ins{Op: api.OpStop, A: 3}, "stop"}, {api.Ins{Op: api.Ops, A: 3}, ""}, {api.Ins{Op: -1, V: api.Vec{W: 1}}, ""},
	} {
		is(t, code.Text(c.x), c.want, "Text", c.x)
	}
}
