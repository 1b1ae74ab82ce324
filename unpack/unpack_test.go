package unpack_test

import (
	"bytes"
	"math"
	"slices"
	"testing"

	"shunter/api"
	"shunter/ground"
	"shunter/image"
	"shunter/unpack"
)

// Promise 12.3: what was packed is unpacked as the same image.
func TestUnpackOfWhatWasPacked(t *testing.T) {
	l := ground.Images()
	for _, n := range []int{40000, 65534, 65535} {
		l = append(l, ground.Sized(n))
	}
	for i, m := range l {
		got, err := asModel(t, packed(t, m))
		if err != nil || !image.Same(got, m) {
			t.Errorf("the image %d is unpacked as %v, %v", i, got, err)
		}
	}
}

// Promise 12.1, by hand.
func TestUnpackByHand(t *testing.T) {
	b, _ := laid([][]byte{
		bytesOf("03 412e62 40 20 04"),
		bytesOf("01 01 68 02 01 61 10 01 62 08 40 01 3f 1000"),
		bytesOf("02 01 78 00 00 01 79 00 04"),
		bytesOf("01 01 6d 20"),
		bytesOf("02 01 73 03 00 00 01 01 02 40 03 00 0000 00 01 0008 00 02 0400 01 02 31 0000000000ff0f 31 0100000000ffff 01 31 00000000000000 31 00000000000000 fe ff 01 74 00 00 00 00"),
		bytesOf("02 01 61 00 00 01 62 02 01 80 05 00 0c 0abc 01 04 01 21 00 03 1c 01 04 22"),
		bytesOf("01 01 74 02 01 00 0001 01 02 01 00 01 02 01 01 80 00000000000000010000000000000002 0100"),
		bytesOf("04 00 00 01 02 01 02 02 01 06 03 02 02 01 02 01 00 80 80000000000000000000000000000000 03 03 04 04 04"),
		bytesOf("00"),
		bytesOf("05 04 03 02 01 00"),
		bytesOf("01 00 00"),
		bytesOf("02 01 00 04 00"),
		bytesOf("01 01 72 80 08"),
		bytesOf("01 01 63 01"),
		bytesOf("01 01 6d 02 1234 00056789"),
	})
	m, err := asModel(t, b)
	if err != nil || !image.Same(m, byHand()) {
		t.Errorf("Unpack = %v, %v; want %v", m, err, byHand())
	}
}

func byHand() api.Image {
	return api.Image{
		Name: "A.b", Ports: 64, Depth: 32, Rounds: 4,
		Headers: []api.Header{{Name: "h", Fields: []api.Field{{Name: "a", W: 16}, {Name: "b", W: 8}}, Var: 64, By: 1, Mul: 63, Sub: 4096}},
		Insts:   []api.Inst{{Name: "x"}, {Name: "y", Depth: 4}},
		Metas:   []api.Field{{Name: "m", W: 32}},
		States: []api.State{
			{Name: "s", Exts: []api.Ext{{Kind: api.ExtOne}, {Kind: api.ExtNext, N: 1}, {Kind: api.ExtSkip, N: 64}},
				Keys: []api.Key{{Kind: api.KeyField}, {Kind: api.KeyMeta, A: 8}, {Kind: api.KeyLook, A: 1024, B: 1}},
				Cases: []api.Case{
					{Value: api.Vec{W: 49, Lo: 0xff0f}, Mask: api.Vec{W: 49, Lo: 1<<48 | 0xffff}, Next: 1},
					{Value: api.Vec{W: 49}, Mask: api.Vec{W: 49}, Next: api.Reject},
				}, Next: api.Accept},
			{Name: "t"},
		},
		Actions: []api.Action{
			{Name: "a"},
			{Name: "b", Params: []int{1, 128}, Code: []api.Ins{{V: api.Vec{W: 12, Lo: 0xabc}}, {Op: api.OpField, A: 4, B: 1}, {Op: api.OpJumpGone, B: 3}, {Op: api.OpPopHead, A: 1, B: 4}, {Op: api.OpStop}}},
		},
		Tables: []api.Table{{Name: "t", Kind: api.Ternary, Keys: []api.Key{{A: 1, B: 1}}, Actions: []int{1, 0}, Default: api.Call{Action: 1, Args: []api.Vec{{W: 1, Lo: 1}, {W: 128, Hi: 1, Lo: 2}}}, Size: 256}},
		Ingress: []api.Node{
			{Kind: api.NodeApply, Yes: 1, No: 2},
			{Kind: api.NodeIf, Code: []api.Ins{{Op: api.OpMeta, A: 1}, {Op: api.OpNot}}, Yes: 3, No: 2},
			{Kind: api.NodeDo, A: 1, Args: []api.Vec{{W: 1}, {W: 128, Hi: 1 << 63}}, Yes: 3},
			{Kind: api.NodeValid, A: 4, Yes: 4, No: 4},
		},
		Deparse:  []int{4, 3, 2, 1, 0},
		Checks:   []api.Sum{{}},
		Updates:  []api.Sum{{Slot: 1}, {Slot: 4}},
		Regs:     []api.Reg{{Name: "r", W: 128, Log: 8}},
		Counters: []api.Counter{{Name: "c", Log: 1}},
		Meters:   []api.Meter{{Name: "m", Log: 2, Rate: 0x1234, Burst: 0x56789}},
	}
}

// unpackTold asks what is wrong with bytes, and whether the model says so.
func unpackTold(t *testing.T, b []byte, e api.Errno, at int) {
	t.Helper()
	_, err := asModel(t, b)
	told(t, err, e, at, true)
}

// Promise 12.1: a certain byte; the fault lies behind it.

func TestUnpackOfTheMark(t *testing.T) {
	b := packed(t, ground.LeastImage())
	for at := range 5 {
		each(b, at, func(x byte) {
			if x != markOf[at] {
				unpackTold(t, b, api.ErrForm, at+1)
				unpackTold(t, b[:at+1], api.ErrForm, at+1)
			}
		})
	}
	unpackTold(t, nil, api.ErrEnd, 0)
	unpackTold(t, []byte{}, api.ErrEnd, 0)
	unpackTold(t, []byte("SHNT"), api.ErrEnd, 4)
	unpackTold(t, []byte("SHNT\x01"), api.ErrEnd, 5)
	unpackTold(t, []byte("SHNT1"), api.ErrForm, 5)
	unpackTold(t, []byte("shnt\x01"), api.ErrForm, 1)
	unpackTold(t, []byte("SH"), api.ErrEnd, 2)
}

// each has each number at a place in turn, and then the one that was there.
func each(b []byte, at int, do func(x byte)) {
	kept := b[at]
	for x := range 256 {
		b[at] = byte(x)
		do(byte(x))
	}
	b[at] = kept
}

func TestUnpackOfSectionNumbers(t *testing.T) {
	for _, m := range []api.Image{ground.LeastImage(), ground.Image()} {
		b, places := laid(sectionsOf(t, m))
		for part, at := range places[:15] {
			each(b, at, func(x byte) {
				if int(x) != part {
					unpackTold(t, b, api.ErrForm, at+1)
				}
			})
		}
		for part := range 14 { // two sections that have changed places
			l := sectionsOf(t, m)
			l[part], l[part+1] = l[part+1], l[part]
			b, places := laid(l)
			b[places[part]], b[places[part+1]] = b[places[part+1]], b[places[part]]
			unpackTold(t, b, api.ErrForm, places[part]+1)
		}
	}
}

// Promise 12.1: a section's length.
func TestUnpackOfSectionLengths(t *testing.T) {
	for _, m := range []api.Image{ground.LeastImage(), ground.Image(), byHand()} {
		b, places := laid(sectionsOf(t, m))
		for part, place := range places[:15] {
			at, end := place+1, places[part+1]
			length, left := end-at-4, len(b)-at-4
			for n := range left + 3 {
				e, where := api.ErrLong, end
				if n > left {
					e, where = api.ErrEnd, at+4
				}
				if n != length {
					unpackTold(t, withLength(b, at, n), e, where)
				}
			}
			for _, n := range []int{65534, 65535} {
				unpackTold(t, withLength(b, at, n), api.ErrEnd, at+4)
			}
			for _, n := range []int{65536, 65537, 65536 + length, 1 << 24, 1<<24 + length, 1<<31 - 1, 1 << 31, math.MaxUint32 - 1, math.MaxUint32} {
				unpackTold(t, withLength(b, at, n), api.ErrRange, at)
			}
		}
	}
}

func withLength(b []byte, at, n int) []byte {
	b = bytes.Clone(b)
	for i := range 4 {
		b[at+i] = byte(n >> (24 - 8*i))
	}
	return b
}

// A section's length is asked ahead of its things, but where these end only behind them.
func TestUnpackGoesOnIntoTheNextSection(t *testing.T) {
	for _, c := range []struct {
		part    int
		section string
		e       api.Errno
		at      int // behind where the section's things begin
	}{
		{0, "", api.ErrForm, 0}, {0, "01", api.ErrForm, 0}, {0, "0161", api.ErrLong, 5}, {0, "016101", api.ErrLong, 5}, {0, "01610101", api.ErrLong, 5}, {0, "0161010100 00", api.ErrLong, 5}, {0, "0161010100 000000", api.ErrLong, 5},
		{1, "", api.ErrForm, 1}, {1, "0000", api.ErrLong, 1}, {9, "01", api.ErrLong, 2}, {9, "0100 00", api.ErrLong, 2}, {9, "21", api.ErrLong, 0}, {9, "", api.ErrLong, 11},
		{14, "", api.ErrEnd, 0}, {14, "01", api.ErrEnd, 1}, {14, "0161", api.ErrEnd, 1}, {14, "00ff", api.ErrLong, 1}, {14, "01 0161 01 0000 0000 00", api.ErrEnd, 6}, {14, "01 0161 01 0000 00000001 00", api.ErrLong, 10},
	} {
		b, at := leastWith(c.part, bytesOf(c.section))
		unpackTold(t, b, c.e, at+c.at)
	}
}

// Promise 12.1: bytes behind the last section.
func TestUnpackOfBytesBehind(t *testing.T) {
	for _, m := range ground.Images() {
		b := packed(t, m)
		for _, behind := range [][]byte{{0}, {255}, {15}, bytesOf("0f0000000100"), []byte(markOf), b} {
			if len(b)+len(behind) <= 65535 {
				unpackTold(t, slices.Concat(b, behind), api.ErrLong, len(b))
			}
		}
	}
}

// Promise 12.1: more bytes than there may be, whatever they are.
func TestUnpackOfMuch(t *testing.T) {
	least := packed(t, ground.LeastImage())
	for _, n := range []int{65536, 65537, 1 << 17, 1 << 20} {
		told(t, errorOf(make([]byte, n)), api.ErrLong, 0, true)
		told(t, errorOf(ground.Bytes(n)), api.ErrLong, 0, true)
		told(t, errorOf(append(bytes.Clone(least), make([]byte, n-len(least))...)), api.ErrLong, 0, true)
	}
	for _, n := range []int{65536, 65537, 70000} {
		b, _ := laid(sectionsOf(t, ground.Sized(n)))
		if len(b) != n {
			t.Fatalf("%d bytes; want %d", len(b), n)
		}
		unpackTold(t, b, api.ErrLong, 0)
		b[0] = 's'
		unpackTold(t, b, api.ErrLong, 0)
	}
	unpackTold(t, make([]byte, 65535), api.ErrForm, 1)
	unpackTold(t, append(bytes.Clone(least), make([]byte, 65535-len(least))...), api.ErrLong, len(least))
	b := packed(t, ground.Sized(65534))
	unpackTold(t, append(b, 0), api.ErrLong, 65534)
	unpackTold(t, append(b, 0, 0), api.ErrLong, 0)
}

func errorOf(b []byte) error {
	_, err := unpack.Unpack(b)
	return err
}

// Promise 12.1: the Reader's faults, and those of numbers and lists, each where it begins; by hand.
func TestUnpackOfFaults(t *testing.T) {
	for _, c := range []struct {
		part    int
		section string
		e       api.Errno
		at      int // behind where the section's things begin
	}{
		{0, "00 010100", api.ErrForm, 0}, {0, "0131 010100", api.ErrForm, 0}, {0, "0261ff 010100", api.ErrForm, 0}, {0, "ff 010100", api.ErrEnd, 0},
		{1, "01 0168 01 00 08 00000000 00", api.ErrForm, 4}, {1, "01 0120 01 0161 08 00000000 00", api.ErrForm, 1},
		{2, "01 0131 00 00", api.ErrForm, 1}, {3, "01 0131 08", api.ErrForm, 1}, {3, "02 0161 08 0131 08", api.ErrForm, 4},
		{4, "01 0131 00 00 00 ff", api.ErrForm, 1}, {4, "01 0173 01 03 00", api.ErrRange, 4}, {4, "01 0173 01 ff 00", api.ErrRange, 4}, {4, "01 0173 02 0000 0300", api.ErrRange, 6}, {4, "01 0173 00 01 03 0000 00", api.ErrRange, 5}, {4, "01 0173 00 02 02000000 03 0000 00", api.ErrRange, 9},
		{4, "01 0173 00 00 01 00", api.ErrWidth, 6}, {4, "01 0173 00 00 01 81 00", api.ErrWidth, 6}, {4, "01 0173 00 00 01 0102", api.ErrForm, 6}, {4, "01 0173 00 00 01 0101 00", api.ErrWidth, 8}, {4, "01 0173 00 00 01 0101 091000", api.ErrForm, 8}, {4, "01 0173 00 00 01 0101 ff", api.ErrWidth, 8}, {4, "01 0173 00 00 02 0101 0101 ff 00", api.ErrWidth, 11},
		{5, "01 0131 00 00", api.ErrForm, 1}, {5, "01 0161 00 01 23", api.ErrRange, 5}, {5, "01 0161 00 02 22 ff", api.ErrRange, 6}, {5, "01 0161 00 01 00 00", api.ErrWidth, 6}, {5, "01 0161 00 01 00 0180", api.ErrForm, 6},
		{6, "01 0131 00 00", api.ErrForm, 1}, {6, "01 0161 04", api.ErrRange, 3}, {6, "01 0161 ff", api.ErrRange, 3}, {6, "01 0161 00 01 03 0000 00", api.ErrRange, 5}, {6, "01 0161 00 00 00 00 01 00", api.ErrWidth, 8}, {6, "01 0161 00 00 00 00 02 0101 0904ff", api.ErrForm, 10},
		{7, "01 04 00 00 00", api.ErrRange, 1}, {7, "01 ff 00 00 00", api.ErrRange, 1}, {7, "01 01 01 23", api.ErrRange, 3}, {7, "01 02 00 01 ff", api.ErrWidth, 4}, {7, "02 00 00 00 00 04", api.ErrRange, 5},
		{8, "01 04 00 00 00", api.ErrRange, 1}, {8, "01 01 01 23", api.ErrRange, 3}, {8, "02 02 00 00 00 04", api.ErrRange, 5}, {8, "02 01 00 00 00 04", api.ErrRange, 5}, {8, "02 03 00 00 00 04", api.ErrRange, 5},
		{12, "01 0131 01 01", api.ErrForm, 1}, {13, "02 0161 01 0131 01", api.ErrForm, 4}, {14, "02 0161 01 0000 00000001 0131", api.ErrForm, 10}, {14, "01 02 ff61", api.ErrForm, 1},
	} {
		b, at := leastWith(c.part, bytesOf(c.section))
		unpackTold(t, b, c.e, at+c.at)
	}
}

// listed is a list: in which part it is, what stands ahead of it and behind it, one of its things, and how many there may be.
type listed struct {
	part               int
	ahead, one, behind string
	most               int
	e                  api.Errno
}

func lists() []listed {
	return []listed{
		{1, "", "0168 01 0161 08 00 00 00 0000", "", 16, api.ErrRange},
		{1, "01 0168", "0161 08", "00 00 00 0000", 16, api.ErrRange},
		{2, "", "0178 00 00", "", 16, api.ErrRange},
		{3, "", "0161 08", "", 16, api.ErrRange},
		{4, "", "0173 00 00 00 ff", "", 16, api.ErrRange},
		{4, "01 0173", "02 01", "00 00 ff", 4, api.ErrRange},
		{4, "01 0173 00", "01 0000 00", "00 ff", 4, api.ErrRange},
		{4, "01 0173 00 01 01 0000 00", "08 00 08 00 fe", "ff", 8, api.ErrRange},
		{5, "", "0161 00 00", "", 32, api.ErrRange},
		{5, "01 0161", "08", "00", 8, api.ErrLong},
		{5, "01 0161 00", "22", "", 64, api.ErrRange},
		{5, "01 0161 00", "00 80 00000000000000000000000000000001", "", 64, api.ErrRange},
		{5, "01 0161 00", "21 00 01", "", 64, api.ErrRange},
		{6, "", "0161 00 00 00 00 00 0001", "", 8, api.ErrRange},
		{6, "01 0161 00", "00 0000 00", "00 00 00 0001", 4, api.ErrRange},
		{6, "01 0161 03 00", "05", "00 00 0001", 8, api.ErrLong},
		{6, "01 0161 03 00 00 00", "0c 0abc", "0001", 8, api.ErrLong},
		{7, "", "00 00 01 01", "", 32, api.ErrRange},
		{7, "01 01", "0b 80", "01 01", 64, api.ErrRange},
		{7, "01 02 00", "01 01", "01", 8, api.ErrLong},
		{8, "", "03 00 01 01", "", 32, api.ErrRange},
		{8, "", "02 00 00 01", "", 32, api.ErrRange},
		{8, "01 01", "06", "01 01", 64, api.ErrRange},
		{8, "01 02 00", "80 00000000000000000000000000000000", "01", 8, api.ErrLong},
		{9, "", "ff", "", 32, api.ErrLong},
		{10, "", "00 00", "", 4, api.ErrRange},
		{11, "", "ff ff", "", 4, api.ErrRange},
		{12, "", "0161 01 01", "", 8, api.ErrRange},
		{13, "", "0161 01", "", 8, api.ErrRange},
		{14, "", "0161 01 0000 00000001", "", 8, api.ErrRange},
	}
}

// Promise 12.1: how many things a list has; up to the most of them there is no fault.
func TestUnpackOfLists(t *testing.T) {
	for _, c := range lists() {
		ahead := bytesOf(c.ahead)
		for n := range 256 {
			section := slices.Concat(ahead, []byte{byte(n)}, bytes.Repeat(bytesOf(c.one), n), bytesOf(c.behind))
			b, at := leastWith(c.part, section)
			_, err := asModel(t, b)
			if n > c.most {
				told(t, err, c.e, at+len(ahead), true)
			} else if _, _, inBytes := unpack.Why(err); inBytes {
				t.Errorf("%d things of %v: %v", n, c, err)
			}
		}
	}
}

// Promise 12.1: kinds, and operations, that there are.
func TestUnpackOfKinds(t *testing.T) {
	for _, c := range []struct {
		part          int
		ahead, behind string
		most          int
	}{
		{4, "01 0173 01", "00 00 00 ff", 2},
		{4, "01 0173 00 01", "0000 00 00 ff", 2},
		{6, "01 0161", "00 00 00 00 0001", 3},
		{6, "01 0161 00 01", "0000 00 00 00 00 0001", 2},
		{7, "01", "00 00 00 00", 3},
		{8, "01", "00 00 00 00", 3},
		{5, "01 0161 00 01", "08 08 08", 34},
		{7, "01 01 01", "08 08 08 08 08", 34},
		{8, "01 01 01", "08 08 08 08 08", 34},
	} {
		ahead := bytesOf(c.ahead)
		for n := range 256 {
			b, at := leastWith(c.part, slices.Concat(ahead, []byte{byte(n)}, bytesOf(c.behind)))
			_, err := asModel(t, b)
			if n > c.most {
				told(t, err, api.ErrRange, at+len(ahead), true)
			} else if e, where, inBytes := unpack.Why(err); inBytes && where == at+len(ahead) {
				t.Errorf("the kind %d behind % x: %d", n, ahead, e)
			}
		}
	}
}

// Promise 12.1: an image that was read and has a flaw.
func TestUnpackOfFlaws(t *testing.T) {
	for _, c := range []struct {
		part    int
		section string
		n       int
		e       api.Errno
	}{
		{0, "016d 00 01 00", 0, api.ErrRange}, {0, "016d 41 01 00", 0, api.ErrRange}, {0, "016d 01 ff 00", 0, api.ErrRange}, {0, "016d 01 01 05", 0, api.ErrRange},
		{1, "01 0168 01 0161 07 00 00 00 0000", 0, api.ErrWidth}, {1, "01 0168 00 00 00 00 0000", 0, api.ErrNone}, {1, "01 0168 01 0161 08 ff ff ff ffff", 0, api.ErrRange}, {1, "02 0168 01 0161 08 00 00 00 0000 0148 01 0161 08 00 00 00 0000", 1, api.ErrTwice}, {1, "01 03682e68 01 0161 08 00 00 00 0000", 0, api.ErrForm},
		{2, "01 0178 00 00", 0, api.ErrNone}, {2, "01 0178 ff ff", 0, api.ErrNone},
		{3, "01 0161 00", 0, api.ErrWidth}, {3, "02 0161 80 0162 81", 1, api.ErrWidth}, {3, "02 0161 80 0161 80", 1, api.ErrTwice},
		{4, "00", 0, api.ErrNone}, {4, "01 0173 00 00 00 01", 0, api.ErrNone}, {4, "02 0173 00 00 00 01 0174 00 00 00 fd", 1, api.ErrNone}, {4, "01 0173 01 02 00 00 00 ff", 0, api.ErrRange}, {4, "01 0173 00 01 02 ffff ff 00 ff", 0, api.ErrRange}, {4, "01 0173 00 01 01 ffff 00 00 ff", 0, api.ErrNone}, {4, "01 0173 00 00 01 0101 0101 ff ff", 0, api.ErrForm}, {4, "01 0173 00 01 01 0000 00 01 08 02 08 01 ff ff", 0, api.ErrMask},
		{5, "02 0161 00 00 0162 00 01 1f 00", 1, api.ErrLoop}, {5, "01 0161 00 01 02 ff", 0, api.ErrRange}, {5, "01 0161 01 00 00", 0, api.ErrWidth}, {5, "01 0161 00 01 01 00 00", 0, api.ErrNone},
		{6, "01 0161 00 00 00 00 00 0001", 0, api.ErrNone}, {6, "01 0161 00 01 02 0000 00 00 00 00 0001", 0, api.ErrKind},
		{7, "01 00 00 01 01", 0, api.ErrNone}, {7, "02 01 00 01 01 01 00 01 02", 1, api.ErrLoop},
		{8, "01 03 00 01 01", 0, api.ErrNone}, {8, "01 02 00 00 01", 0, api.ErrNone}, {8, "01 01 00 00 01", 0, api.ErrLoop},
		{9, "01 00", 0, api.ErrNone}, {10, "01 00 00", 0, api.ErrNone}, {11, "01 ff ff", 0, api.ErrNone},
		{12, "01 0161 01 00", 0, api.ErrRange}, {12, "02 0161 01 01 0162 81 01", 1, api.ErrWidth}, {13, "01 0161 09", 0, api.ErrRange},
		{14, "01 0161 01 0000 00000000", 0, api.ErrRange}, {14, "01 0161 01 ffff 00100001", 0, api.ErrRange}, {14, "01 0161 01 ffff ffffffff", 0, api.ErrRange}, {14, "02 0161 01 ffff 00100000 0141 08 0000 00000001", 1, api.ErrTwice},
	} {
		b, at := leastWith(c.part, bytesOf(c.section))
		m, err := asModel(t, b)
		if part, n, e := image.Why(err); part != c.part || n != c.n || e != c.e {
			t.Errorf("Unpack with %s in the section %d = %v, %v; want a flaw %d in %d, %d", c.section, c.part, m, err, c.e, c.part, c.n)
		}
		told(t, err, c.e, c.part, false)
		unpackTold(t, append(b, 0), api.ErrLong, len(b)) // a fault comes ahead of a flaw, wherever it is
		if c.part != 14 {
			at = len(b) - 1 // where the last section's only byte stands
		}
		unpackTold(t, b[:len(b)-1], api.ErrEnd, at)
	}
}

// Promise 12.1: 255 is Accept, 254 Reject, and no other number.
func TestUnpackOfNextOnes(t *testing.T) {
	for n := range 256 {
		b, _ := leastWith(4, slices.Concat(bytesOf("01 0173 00 01 01 0000 00 01 0801 0801"), []byte{byte(n), byte(n)}))
		m, err := asModel(t, b)
		want, ok := map[int]int{0: 0, 255: api.Accept, 254: api.Reject}[n]
		if !ok {
			told(t, err, api.ErrNone, 4, false)
		} else if err != nil || m.States[0].Next != want || m.States[0].Cases[0].Next != want {
			t.Errorf("the next one %d = %v, %v", n, m.States, err)
		}
	}
}
