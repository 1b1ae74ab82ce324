package pack_test

import (
	"math"
	"testing"

	"shunter/api"
	"shunter/ground"
	"shunter/pack"
)

// Promise 11.2: each part's section, by hand.

func section(t *testing.T, m api.Image, part int, want string) {
	t.Helper()
	b, e := pack.Section(m, part)
	if e != api.OK {
		t.Errorf("Section %d: %d", part, e)
	}
	is(t, b, bytesOf(want), "Section", part)
}

func TestSectionsOfTheLeastImage(t *testing.T) {
	for part, want := range []string{"01 6d 01 01 00", "00", "00", "00", "01 01 73 00 00 00 ff", "00", "00", "00", "00", "00", "00", "00", "00", "00", "00"} {
		section(t, ground.LeastImage(), part, want)
	}
}

func TestHeadAndHeaders(t *testing.T) {
	m := ground.Image()
	section(t, m, 0, "09 72696768742e6f6e65 40 20 04")
	m.Name = "Ää"
	section(t, m, 0, "04 c384c3a4 40 20 04")
	section(t, m, 1, "04"+
		"03 657468 03 03 647374 30 03 737263 30 03 747970 10 00 00 00 0000"+
		"03 746167 04 03 707269 03 03 646569 01 02 6964 0c 03 747970 10 00 00 00 0000"+
		"02 6970 04 03 766572 04 03 69686c 04 03 74746c 08 03 73756d 10 28 01 04 0014"+
		"03 6f6464 05 01 61 08 01 62 10 01 63 08 01 64 80 01 65 10 00 00 00 0000")
	m = ground.LeastImage()
	m.Headers = []api.Header{{Name: "h", Fields: []api.Field{{Name: "a", W: 16}, {Name: "b", W: 8}}, Var: 64, By: 1, Mul: 63, Sub: 4096}}
	section(t, m, 1, "01 01 68 02 01 61 10 01 62 08 40 01 3f 1000")
	section(t, ground.Image(), 2, "05 03 657468 00 00 04 74616773 01 03 02 6970 02 00 03 6f6464 03 01 02 696e 02 00")
	section(t, ground.Image(), 3, "03 04 6d61726b 08 04 77696465 80 03 626974 01")
}

func TestStates(t *testing.T) {
	m := ground.Image()
	m.States[1].Cases = m.States[1].Cases[:1]
	section(t, m, 4, "04"+
		"05 7374617274 01 00 00 01 00 0000 02 02 10 8100 10 ffff 01 10 0800 10 ff00 02 ff"+
		"03 746167 02 01 01 02 01 03 00 0001 03 02 0000 01 01 0008 00 01 19 00000000 19 00000000 fe 01"+
		"02 6970 04 00 06 02 40 01 03 00 04 04 02 0400 40 01 000a 00 02 0000 3e 01 0003 00 01 80 ffffffffffffffffffffffffffffffff 80 ffffffffffffffffffffffffffffffff 03 00"+
		"04 6c617374 00 00 00 fe")
}

func TestActionsAndTables(t *testing.T) {
	m := ground.Image()
	m.Actions[2].Code, m.Actions[3].Code = nil, m.Actions[3].Code[61:62]
	m.Actions[3].Code[0].A = 1
	section(t, m, 5, "09"+
		"04 64726f70 00 02 00 01 01 17 03"+
		"04 73656e64 02 08 80 04 03 00 17 01 03 01 17 09"+
		"05 6576657279 00 00"+
		"04 6c6f6e67 08 0102030405060708 01 1f 01"+
		"04 6e6f6e65 00 00 04 66697665 00 00 03 736978 00 00 05 736576656e 00 00 05 6569676874 00 00")
	section(t, m, 6, "04"+
		"05 6578616374 00 01 00 0000 00 02 00 01 01 02 08 01 80 00000000000000000000000000000002 0001"+
		"03 6c706d 01 01 00 0005 03 08 0807060504020100 02 00 0100"+
		"07 7465726e617279 02 04 00 0005 01 01 000a 00 00 0006 02 01 0008 00 01 04 04 00 000a"+
		"04 7370616e 03 02 01 0000 00 01 0007 00 01 00 00 00 00ff")
}

func TestNodes(t *testing.T) {
	m := ground.Image()
	section(t, m, 7, "05 00 03 01 05 01 01 04 06 02 03 02 01 02 08 ff 80 ffffffffffffffffffffffffffffffff 04 03 06 05 04 02 04 00 05")
	section(t, m, 8, "04 03 00 01 04 01 00 03 04 00 00 03 04 02 03 08 01 00 02 03 03 04 04 05 05 06 06 07 07 08 08 09 04")
	m.Ingress, m.Egress = m.Egress, nil
	section(t, m, 7, "04 03 00 01 04 01 00 03 04 00 00 03 04 02 03 08 01 00 02 03 03 04 04 05 05 06 06 07 07 08 08 09 04")
	section(t, m, 8, "00")
}

func TestWhatGoesOutAndUnits(t *testing.T) {
	m := ground.Image()
	section(t, m, 9, "07 06 00 01 02 03 05 04")
	section(t, m, 10, "02 04 03 00 02")
	section(t, m, 11, "04 06 03 06 03 02 03 05 04")
	section(t, m, 12, "02 03 6f6e65 01 01 03 74776f 80 08")
	section(t, m, 13, "03 03 6f6e65 01 03 74776f 08 05 7468726565 04")
	section(t, m, 14, "02 03 6f6e65 01 0000 00000001 03 74776f 08 ffff 00100000")
	m.Deparse = []int{0, 1}
	section(t, m, 9, "02 00 01")
	m.Meters[0].Rate, m.Meters[0].Burst = 0x1234, 0x56789
	section(t, m, 14, "02 03 6f6e65 01 1234 00056789 03 74776f 08 ffff 00100000")
}

func noParts() []int {
	return []int{-1, -2, -15, 15, 16, 255, 256, 1 << 32, math.MinInt, math.MaxInt}
}

// Promise 11.2: what there is no section of.
func TestSectionNone(t *testing.T) {
	for _, m := range ground.Images() {
		for _, part := range noParts() {
			if b, e := pack.Section(m, part); len(b) > 0 || e != api.ErrNone {
				t.Errorf("Section %d = % x, %d", part, b, e)
			}
		}
	}
}
