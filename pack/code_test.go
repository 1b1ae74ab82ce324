package pack_test

import (
	"bytes"
	"encoding/hex"
	"math"
	"slices"
	"strings"
	"testing"

	"shunter/api"
	"shunter/code"
	"shunter/ground"
	"shunter/pack"
)

// bytesOf are bytes in words of digits of the base 16.
func bytesOf(s string) []byte {
	b, err := hex.DecodeString(strings.ReplaceAll(s, " ", ""))
	if err != nil {
		panic(err)
	}
	return b
}

func is(t *testing.T, got, want []byte, call string, args ...any) {
	t.Helper()
	if !bytes.Equal(got, want) {
		t.Errorf("%s %v = % x; want % x", call, args, got, want)
	}
}

// Promise 11.2: code's bytes.

func TestCodeOfEachOperation(t *testing.T) {
	for _, c := range []struct {
		x    api.Ins
		want string
	}{
		{api.Ins{V: rowOf(1, 0)}, "00 01 00"}, {api.Ins{V: rowOf(12, 0xabc)}, "00 0c 0abc"}, {api.Ins{V: rowOf(64, math.MaxUint64)}, "00 40 ffffffffffffffff"}, {api.Ins{V: api.Vec{W: 65, Hi: 1, Lo: 2}}, "00 41 010000000000000002"}, {api.Ins{V: api.Vec{W: 128, Hi: 1 << 63, Lo: 9}}, "00 80 80000000000000000000000000000009"},
		{api.Ins{Op: api.OpField, A: 31, B: 15}, "01 1f 0f"},
		{api.Ins{Op: api.OpMeta, A: 23}, "02 17"},
		{api.Ins{Op: api.OpParam, A: 7}, "03 07"},
		{api.Ins{Op: api.OpValid, A: 31}, "04 1f"},
		{api.Ins{Op: api.OpReg, A: 7}, "05 07"},
		{api.Ins{Op: api.OpNot}, "06"},
		{api.Ins{Op: api.OpNeg}, "07"},
		{api.Ins{Op: api.OpShl, A: 128}, "08 80"}, {api.Ins{Op: api.OpShl}, "08 00"},
		{api.Ins{Op: api.OpShr, A: 127}, "09 7f"},
		{api.Ins{Op: api.OpSlice, A: 127, B: 126}, "0a 7f 7e"}, {api.Ins{Op: api.OpSlice, A: 7}, "0a 07 00"},
		{api.Ins{Op: api.OpCast, A: 128}, "0b 80"},
		{api.Ins{Op: api.OpAdd}, "0c"}, {api.Ins{Op: api.OpSub}, "0d"}, {api.Ins{Op: api.OpAddSat}, "0e"}, {api.Ins{Op: api.OpSubSat}, "0f"}, {api.Ins{Op: api.OpAnd}, "10"}, {api.Ins{Op: api.OpOr}, "11"}, {api.Ins{Op: api.OpXor}, "12"}, {api.Ins{Op: api.OpCat}, "13"}, {api.Ins{Op: api.OpEq}, "14"}, {api.Ins{Op: api.OpLess}, "15"},
		{api.Ins{Op: api.OpPutField, A: 2, B: 1}, "16 02 01"},
		{api.Ins{Op: api.OpPutMeta, A: 1}, "17 01"},
		{api.Ins{Op: api.OpPutReg}, "18 00"},
		{api.Ins{Op: api.OpShow, A: 5}, "19 05"},
		{api.Ins{Op: api.OpHide, A: 6}, "1a 06"},
		{api.Ins{Op: api.OpPushHead, A: 15, B: 4}, "1b 0f 04"},
		{api.Ins{Op: api.OpPopHead, B: 1}, "1c 00 01"},
		{api.Ins{Op: api.OpCount, A: 3}, "1d 03"},
		{api.Ins{Op: api.OpMeter, A: 4}, "1e 04"},
		{api.Ins{Op: api.OpJump, A: 64}, "1f 40"},
		{api.Ins{Op: api.OpJumpZero, A: 63}, "20 3f"},
		{api.Ins{Op: api.OpJumpGone, A: 31, B: 64}, "21 1f 40"},
		{api.Ins{Op: api.OpStop}, "22"},
	} {
		is(t, pack.Code(nil, []api.Ins{c.x}), bytesOf("01"+c.want), "Code", c.x)
		is(t, pack.Code([]byte("ahead"), []api.Ins{c.x, {Op: api.OpStop}, c.x}), slices.Concat([]byte("ahead\x03"), bytesOf(c.want), []byte{34}, bytesOf(c.want)), "Code", c.x)
	}
}

// Whatever layer 9 takes is read again as it was.
func TestCodeIsReadAgain(t *testing.T) {
	for o := range api.Ops {
		for a := range 130 {
			for b := range 130 {
				x := api.Ins{Op: o, A: a, B: b}
				if o == api.OpPush {
					x = api.Ins{V: api.Vec{W: a, Hi: uint64(b) >> 6, Lo: uint64(b)}}
				}
				if code.May(x) != api.OK {
					continue
				}
				s := &source{pack.Code(nil, []api.Ins{x})}
				if l := listOf(s, s.ins); len(l) != 1 || l[0] != x || len(s.b) > 0 {
					t.Errorf("Code of %v is read as %v with % x behind", x, l, s.b)
				}
			}
		}
	}
}

func stops(n int) []api.Ins {
	return slices.Repeat([]api.Ins{{Op: api.OpStop}}, n)
}

// Promise 11.2: of code that All doesn't take, a byte 0.
func TestCodeThatIsNotTaken(t *testing.T) {
	wide := api.Ins{V: api.Vec{W: 128, Lo: 7}}
	for _, l := range [][]api.Ins{
		nil, {}, stops(65), stops(66), stops(1000), slices.Repeat([]api.Ins{wide}, 65),
		{{Op: -1}}, {{Op: 35}}, {{Op: 256}}, {{Op: math.MinInt}}, {{Op: math.MaxInt}},
		{{}}, {{V: rowOf(129, 0)}}, {{V: rowOf(8, 256)}}, {{V: rowOf(8, 1), A: 1}}, {{Op: api.OpStop, V: rowOf(1, 1)}},
		{{Op: api.OpField, A: 32}}, {{Op: api.OpField, B: 16}}, {{Op: api.OpMeta, A: 24}}, {{Op: api.OpMeta, A: -1}}, {{Op: api.OpCast}}, {{Op: api.OpSlice, A: 3, B: 4}}, {{Op: api.OpNot, A: 1}}, {{Op: api.OpAdd, B: 1}}, {{Op: api.OpJump, A: 65}}, {{Op: api.OpPushHead}},
		append(stops(63), api.Ins{Op: 35}), {wide, {Op: 35}, wide}, {{Op: 35}, wide},
	} {
		is(t, pack.Code(nil, l), []byte{0}, "Code of what isn't taken", len(l))
		is(t, pack.Code([]byte{1, 2}, l), []byte{1, 2, 0}, "Code of what isn't taken", len(l))
	}
	is(t, pack.Code(nil, stops(64)), slices.Concat([]byte{64}, bytes.Repeat([]byte{34}, 64)), "Code of the most there may be")
	is(t, pack.Code(nil, slices.Repeat([]api.Ins{wide}, 64)), slices.Concat([]byte{64}, bytes.Repeat(bytesOf("00 80 00000000000000000000000000000007"), 64)), "Code of the longest there may be")
}

// Where a jump goes, and whether there is what an instruction names, isn't asked.
func TestCodeAsksLayer9Alone(t *testing.T) {
	is(t, pack.Code(nil, []api.Ins{{Op: api.OpJump}, {Op: api.OpJumpGone, A: 31}}), bytesOf("02 1f00 211f00"), "Code of jumps back")
	is(t, pack.Code(nil, ground.EveryIns()), bytesOf("11 010603 160504 020a 170a 0501 1801 0406 1906 1a06 1b0304 1c0101 1d02 1e01 1f0e 2011 210611 22"), "Code of every")
}

// Code is in new memory, and what is handed in stays.
func TestCodeIsNewMemory(t *testing.T) {
	for _, n := range []int{0, 1, 5, 1000} {
		for _, l := range [][]api.Ins{nil, stops(1), ground.EveryIns(), stops(65)} {
			handed := ground.Roomy(ground.Bytes(n))
			room := slices.Clone(handed[:cap(handed)])
			kept := slices.Clone(l)
			first, second := pack.Code(handed, l), pack.Code(handed, l)
			want := slices.Clone(second)
			is(t, handed[:cap(handed)], room, "Code wrote behind what was handed in:", n)
			ground.Turn(first)
			is(t, second, want, "turned what was told:", n)
			is(t, handed[:cap(handed)], room, "turned what was told:", n)
			ground.Turn(handed)
			is(t, second, want, "turned what was handed in:", n)
			if !slices.Equal(l, kept) {
				t.Errorf("Code changed %v to %v", kept, l)
			}
		}
	}
}
