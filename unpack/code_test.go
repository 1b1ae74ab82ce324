package unpack_test

import (
	"bytes"
	"math"
	"slices"
	"testing"

	"shunter/api"
	"shunter/code"
	"shunter/ground"
	"shunter/pack"
	"shunter/unpack"
)

// Promise 12.2: code's bytes.

func TestCodeOfEachOperation(t *testing.T) {
	for _, c := range []struct {
		b    string
		want api.Ins
	}{
		{"00 01 00", api.Ins{V: api.Vec{W: 1}}}, {"00 0c 0abc", api.Ins{V: api.Vec{W: 12, Lo: 0xabc}}}, {"00 40 ffffffffffffffff", api.Ins{V: api.Vec{W: 64, Lo: math.MaxUint64}}}, {"00 41 010000000000000002", api.Ins{V: api.Vec{W: 65, Hi: 1, Lo: 2}}}, {"00 80 80000000000000000000000000000009", api.Ins{V: api.Vec{W: 128, Hi: 1 << 63, Lo: 9}}},
		{"01 1f 0f", api.Ins{Op: api.OpField, A: 31, B: 15}}, {"02 17", api.Ins{Op: api.OpMeta, A: 23}}, {"03 07", api.Ins{Op: api.OpParam, A: 7}}, {"04 1e", api.Ins{Op: api.OpValid, A: 30}}, {"05 06", api.Ins{Op: api.OpReg, A: 6}}, {"06", api.Ins{Op: api.OpNot}}, {"07", api.Ins{Op: api.OpNeg}}, {"08 80", api.Ins{Op: api.OpShl, A: 128}}, {"09 00", api.Ins{Op: api.OpShr}}, {"0a 7f 7e", api.Ins{Op: api.OpSlice, A: 127, B: 126}}, {"0b 01", api.Ins{Op: api.OpCast, A: 1}},
		{"0c", api.Ins{Op: api.OpAdd}}, {"0d", api.Ins{Op: api.OpSub}}, {"0e", api.Ins{Op: api.OpAddSat}}, {"0f", api.Ins{Op: api.OpSubSat}}, {"10", api.Ins{Op: api.OpAnd}}, {"11", api.Ins{Op: api.OpOr}}, {"12", api.Ins{Op: api.OpXor}}, {"13", api.Ins{Op: api.OpCat}}, {"14", api.Ins{Op: api.OpEq}}, {"15", api.Ins{Op: api.OpLess}},
		{"16 02 01", api.Ins{Op: api.OpPutField, A: 2, B: 1}}, {"17 01", api.Ins{Op: api.OpPutMeta, A: 1}}, {"18 03", api.Ins{Op: api.OpPutReg, A: 3}}, {"19 05", api.Ins{Op: api.OpShow, A: 5}}, {"1a 06", api.Ins{Op: api.OpHide, A: 6}}, {"1b 0f 04", api.Ins{Op: api.OpPushHead, A: 15, B: 4}}, {"1c 00 01", api.Ins{Op: api.OpPopHead, B: 1}}, {"1d 03", api.Ins{Op: api.OpCount, A: 3}}, {"1e 04", api.Ins{Op: api.OpMeter, A: 4}}, {"1f 40", api.Ins{Op: api.OpJump, A: 64}}, {"20 3f", api.Ins{Op: api.OpJumpZero, A: 63}}, {"21 1f 40", api.Ins{Op: api.OpJumpGone, A: 31, B: 64}}, {"22", api.Ins{Op: api.OpStop}},
		// Such as layer 9's May doesn't let through.
		{"01 ff fe", api.Ins{Op: api.OpField, A: 255, B: 254}}, {"02 18", api.Ins{Op: api.OpMeta, A: 24}}, {"03 08", api.Ins{Op: api.OpParam, A: 8}}, {"04 20", api.Ins{Op: api.OpValid, A: 32}}, {"08 81", api.Ins{Op: api.OpShl, A: 129}}, {"0a 00 01", api.Ins{Op: api.OpSlice, B: 1}}, {"0b 00", api.Ins{Op: api.OpCast}}, {"1b 00 00", api.Ins{Op: api.OpPushHead}}, {"1f ff", api.Ins{Op: api.OpJump, A: 255}}, {"21 ff ff", api.Ins{Op: api.OpJumpGone, A: 255, B: 255}},
	} {
		is(t, "01"+c.b, c.want)
		is(t, "03"+c.b+"22"+c.b, c.want, api.Ins{Op: api.OpStop}, c.want)
	}
	is(t, "00")
}

// is asks code's bytes for what they are, and each piece of them, and them with bytes behind, for their faults.
func is(t *testing.T, s string, want ...api.Ins) {
	t.Helper()
	b := bytesOf(s)
	codeAsModel(t, b)
	if l, err := unpack.Code(b); err != nil || !slices.Equal(l, want) {
		t.Errorf("Code of %s = %v, %v; want %v", s, l, err, want)
	}
	for n := range b {
		codeAsModel(t, b[:n])
		l, err := unpack.Code(b[:n])
		if e, _, inBytes := unpack.Why(err); len(l) > 0 || e != api.ErrEnd || !inBytes {
			t.Errorf("Code of % x = %v, %v", b[:n], l, err)
		}
	}
	for _, behind := range [][]byte{{0}, {34}, {255, 0}, b} {
		codeTold(t, slices.Concat(b, behind), api.ErrLong, len(b))
	}
}

// codeTold asks what is wrong with code's bytes, and whether the model says so.
func codeTold(t *testing.T, b []byte, e api.Errno, at int) {
	t.Helper()
	codeAsModel(t, b)
	l, err := unpack.Code(b)
	told(t, err, e, at, true)
	if l != nil {
		t.Errorf("Code of % x = %v beside %v", b, l, err)
	}
}

// Promise 12.2: the faults.
func TestCodeOfFaults(t *testing.T) {
	codeTold(t, nil, api.ErrEnd, 0)
	codeTold(t, []byte{}, api.ErrEnd, 0)
	for _, c := range []struct {
		b  string
		e  api.Errno
		at int
	}{
		{"01", api.ErrEnd, 1}, {"01 01", api.ErrEnd, 2}, {"01 01 00", api.ErrEnd, 3}, {"01 02", api.ErrEnd, 2}, {"02 22", api.ErrEnd, 2}, {"01 00", api.ErrEnd, 2}, {"01 00 09 00", api.ErrEnd, 2},
		{"41", api.ErrRange, 0}, {"ff", api.ErrRange, 0}, {"41 23", api.ErrRange, 0},
		{"01 23", api.ErrRange, 1}, {"01 ff", api.ErrRange, 1}, {"01 23 00 00", api.ErrRange, 1}, {"02 22 23", api.ErrRange, 2}, {"03 01 00 00 00 01 01 80", api.ErrRange, 7},
		{"01 00 00", api.ErrWidth, 2}, {"01 00 81 00", api.ErrWidth, 2}, {"01 00 ff", api.ErrWidth, 2}, {"01 00 01 02", api.ErrForm, 2}, {"01 00 07 80", api.ErrForm, 2}, {"01 00 09 02 00", api.ErrForm, 2}, {"02 00 01 01 00 00", api.ErrWidth, 5},
		{"00 00", api.ErrLong, 1}, {"01 22 22", api.ErrLong, 2}, {"01 01 00 00 00", api.ErrLong, 4}, {"00 23", api.ErrLong, 1},
	} {
		codeTold(t, bytesOf(c.b), c.e, c.at)
	}
}

func TestCodeOfManyInstructions(t *testing.T) {
	for n := range 256 {
		for _, one := range []string{"22", "01 02 03", "00 80 00112233445566778899aabbccddeeff"} {
			b := append([]byte{byte(n)}, bytes.Repeat(bytesOf(one), n)...)
			codeAsModel(t, b)
			l, err := unpack.Code(b)
			if n > 64 {
				codeTold(t, b, api.ErrRange, 0)
			} else if err != nil || len(l) != n {
				t.Errorf("Code of %d instructions = %v, %v", n, l, err)
			}
		}
	}
}

// As many bytes as an image may have, and more.
func TestCodeOfMuch(t *testing.T) {
	codeTold(t, make([]byte, 65535), api.ErrLong, 1)
	codeTold(t, bytes.Repeat([]byte{255}, 65535), api.ErrRange, 0)
	for _, n := range []int{65536, 65537, 1 << 20} {
		codeTold(t, make([]byte, n), api.ErrLong, 0)
		codeTold(t, bytes.Repeat([]byte{255}, n), api.ErrLong, 0)
		codeTold(t, ground.Bytes(n), api.ErrLong, 0)
	}
}

// What layer 9 takes is unpacked as it was packed.
func TestCodeOfWhatWasPacked(t *testing.T) {
	var all []api.Ins
	for o := range api.Ops {
		for a := range 130 {
			for b := range 130 {
				x := api.Ins{Op: o, A: a, B: b}
				if o == api.OpPush {
					x = api.Ins{V: api.Vec{W: a, Hi: uint64(b) >> 6, Lo: uint64(b)}}
				}
				if code.May(x) == api.OK {
					all = append(all, x)
				}
			}
		}
	}
	for n := range 65 {
		for l := range slices.Chunk(all, max(n, 1)) {
			if n == 0 {
				l = nil
			}
			b := pack.Code(nil, l)
			if got, err := unpack.Code(b); err != nil || !slices.Equal(got, l) {
				t.Fatalf("Code of % x = %v, %v; want %v", b, got, err, l)
			}
		}
	}
	l := ground.EveryIns()
	if got, err := unpack.Code(pack.Code(nil, l)); err != nil || !slices.Equal(got, l) {
		t.Errorf("Code = %v, %v; want %v", got, err, l)
	}
}

// All bytes that are few, and mixed ones.
func TestCodeOfFewBytes(t *testing.T) {
	for a := range 256 {
		codeAsModel(t, []byte{byte(a)})
		for b := range 256 {
			codeAsModel(t, []byte{byte(a), byte(b)})
			for _, c := range []byte{0, 1, 34, 35, 255} {
				codeAsModel(t, []byte{byte(a), byte(b), c})
				codeAsModel(t, []byte{1, byte(a), byte(b), c})
				codeAsModel(t, []byte{2, c, byte(a), byte(b)})
			}
		}
	}
	x := uint64(122)
	for range 20000 {
		b := []byte{byte(ground.Number(&x) % 20)}
		for range ground.Number(&x) % 60 {
			b = append(b, byte(ground.Number(&x)%36))
		}
		codeAsModel(t, b)
	}
}
