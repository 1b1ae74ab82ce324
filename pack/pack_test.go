package pack_test

import (
	"bytes"
	"encoding/binary"
	"reflect"
	"slices"
	"testing"

	"shunter/api"
	"shunter/ground"
	"shunter/image"
	"shunter/pack"
)

const parts = 15

// packed are the bytes of an image that is packed; that Size counts them, and that they are its sections, is asked by the way.
func packed(t *testing.T, m api.Image) []byte {
	t.Helper()
	b, e := pack.Pack(m)
	if e != api.OK {
		t.Fatalf("Pack: %d", e)
	}
	if n := pack.Size(m); n != len(b) {
		t.Errorf("Size = %d; want %d", n, len(b))
	}
	if want := sectionsOf(t, m); !bytes.Equal(b, want) {
		t.Errorf("Pack = % x; want % x", b, want)
	}
	return b
}

// sectionsOf are an image's bytes as they are made of its sections.
func sectionsOf(t *testing.T, m api.Image) []byte {
	t.Helper()
	b := []byte{'S', 'H', 'N', 'T', 1}
	for part := range parts {
		s, e := pack.Section(m, part)
		if e != api.OK {
			t.Fatalf("Section %d: %d", part, e)
		}
		b = binary.BigEndian.AppendUint32(append(b, byte(part)), uint32(len(s)))
		b = append(b, s...)
	}
	return b
}

// Promise 11.1: an image's bytes.

func TestPackOfTheLeastImage(t *testing.T) {
	want := bytesOf("53484e5401 00 00000005 016d010100 01 00000001 00 02 00000001 00 03 00000001 00 04 00000007 01 01 73 00 00 00 ff" +
		"05 00000001 00 06 00000001 00 07 00000001 00 08 00000001 00 09 00000001 00 0a 00000001 00 0b 00000001 00 0c 00000001 00 0d 00000001 00 0e 00000001 00")
	is(t, packed(t, ground.LeastImage()), want, "Pack of the least image")
}

// Promises 11.1 and 11.3: what was packed is read again as the image; so images that differ have bytes that differ.
func TestPackIsReadAgain(t *testing.T) {
	var all [][]byte
	for i, m := range ground.Images() {
		b := packed(t, m)
		back, ok := imageOf(b)
		if !ok || !image.Same(back, m) {
			t.Errorf("the image %d is read again as %v, %t", i, back, ok)
		}
		all = append(all, b)
	}
	for i, b := range all {
		if slices.ContainsFunc(all[:i], func(a []byte) bool { return bytes.Equal(a, b) }) {
			t.Errorf("the image %d has bytes of another one", i)
		}
	}
}

// Promise 11.3: each byte of an image is changed; what is an image's bytes still is packed as these.
func TestPackOfWhatIsNear(t *testing.T) {
	for _, m := range []api.Image{ground.LeastImage(), ground.Image()} {
		near(t, packed(t, m))
	}
}

func near(t *testing.T, b []byte) {
	t.Helper()
	read := 0
	for at := range b {
		kept := b[at]
		for _, to := range []byte{0, 1, 2, 3, 4, 5, 6, 7, 8, 9, 16, 31, 64, 65, 127, 128, 253, 254, 255, kept + 1, kept - 1, kept ^ 32, kept ^ 128} {
			b[at] = to
			m, ok := imageOf(b)
			if !ok {
				continue
			}
			read++
			if got, e := pack.Pack(m); e != api.OK || !bytes.Equal(got, b) {
				t.Fatalf("Pack of %v = % x, %d; want % x", m, got, e, b)
			}
		}
		b[at] = kept
	}
	if read < len(b) {
		t.Errorf("%d images are near one of %d bytes; want some more", read, len(b))
	}
}

// Promise 11.3: names that are alike aren't the same.
func TestPackOfWhatIsAlike(t *testing.T) {
	l := []api.Image{ground.Image()}
	for _, in := range []func(m *api.Image){
		func(m *api.Image) { m.Name = "Right.one" },
		func(m *api.Image) { m.Headers[0].Name = "Eth" },
		func(m *api.Image) { m.Headers[0].Fields[0].Name = "Dst" },
		func(m *api.Image) { m.Insts[0].Name = "Eth" },
		func(m *api.Image) { m.Metas[0].Name = "Mark" },
		func(m *api.Image) { m.States[0].Name = "Start" },
		func(m *api.Image) { m.Actions[0].Name = "Drop" },
		func(m *api.Image) { m.Tables[0].Name = "Exact" },
		func(m *api.Image) { m.Regs[0].Name = "One" },
		func(m *api.Image) { m.Counters[0].Name = "One" },
		func(m *api.Image) { m.Meters[0].Name = "One" },
		func(m *api.Image) { m.Checks, m.Updates = m.Updates, m.Checks },
		func(m *api.Image) { m.Ingress, m.Egress = m.Egress, m.Ingress },
		func(m *api.Image) { m.States[3].Next = api.Accept },
		func(m *api.Image) { m.Deparse[0], m.Deparse[1] = m.Deparse[1], m.Deparse[0] },
	} {
		l = append(l, ground.Changed(in))
	}
	for i, a := range l {
		for _, b := range l[:i] {
			if bytes.Equal(packed(t, a), packed(t, b)) {
				t.Errorf("two images that differ have the same bytes: %v, %v", a, b)
			}
		}
	}
}

// Nil and empty lists are one.
func TestPackOfNilAndEmpty(t *testing.T) {
	m := ground.LeastImage()
	m.Headers, m.Insts, m.Metas, m.Actions, m.Tables = []api.Header{}, []api.Inst{}, []api.Field{}, []api.Action{}, []api.Table{}
	m.Ingress, m.Egress, m.Deparse, m.Checks, m.Updates = []api.Node{}, []api.Node{}, []int{}, []api.Sum{}, []api.Sum{}
	m.Regs, m.Counters, m.Meters = []api.Reg{}, []api.Counter{}, []api.Meter{}
	m.States[0].Exts, m.States[0].Keys, m.States[0].Cases = []api.Ext{}, []api.Key{}, []api.Case{}
	is(t, packed(t, m), packed(t, ground.LeastImage()), "Pack of empty lists")
}

// flawed are images with a flaw, one of each part at least.
func flawed() []api.Image {
	l := []api.Image{{}}
	for _, in := range []func(m *api.Image){
		func(m *api.Image) { m.Name = "" },
		func(m *api.Image) { m.Ports = 65 },
		func(m *api.Image) { m.Ports += 256 },
		func(m *api.Image) { m.Headers[0].Fields[0].W = 47 },
		func(m *api.Image) { m.Headers[2].Sub += 1 << 16 },
		func(m *api.Image) { m.Insts[0].Header = 4 },
		func(m *api.Image) { m.Metas = slices.Repeat(m.Metas, 100) },
		func(m *api.Image) { m.States = nil },
		func(m *api.Image) { m.States[0].Next = 255 },
		func(m *api.Image) { m.States[0].Next = 254 },
		func(m *api.Image) { m.States[3].Cases = []api.Case{{}} },
		func(m *api.Image) { m.Actions[0].Code = stops(65) },
		func(m *api.Image) { m.Actions[0].Code = []api.Ins{{}} },
		func(m *api.Image) { m.Tables[0].Actions = nil },
		func(m *api.Image) { m.Tables[0].Size = 257 },
		func(m *api.Image) { m.Ingress[0].Kind = 4 },
		func(m *api.Image) { m.Ingress[0].Args = []api.Vec{{}} },
		func(m *api.Image) { m.Egress[3].No = 4 },
		func(m *api.Image) { m.Deparse = append(m.Deparse, 0) },
		func(m *api.Image) { m.Deparse = make([]int, 1<<16) },
		func(m *api.Image) { m.Checks[0].Field = 0 },
		func(m *api.Image) { m.Updates[0].Slot = -1 },
		func(m *api.Image) { m.Regs[0].W = 129 },
		func(m *api.Image) { m.Counters[0].Log = 0 },
		func(m *api.Image) { m.Meters[0].Burst = 1<<20 + 1 },
		func(m *api.Image) { m.Meters[0].Rate = 1 << 16 },
		func(m *api.Image) { *m = ground.Sized(1 << 16); m.Meters = []api.Meter{{}} }, // too long, too
	} {
		l = append(l, ground.Changed(in))
	}
	return l
}

// Promises 11.1 and 11.2: an image with a flaw, ahead of all else.
func TestFlawed(t *testing.T) {
	seen := map[int]bool{}
	for _, m := range flawed() {
		part, n, _ := image.Why(image.Check(m))
		seen[part] = true
		if b, e := pack.Pack(m); b != nil || e != api.ErrArg {
			t.Errorf("Pack with a flaw in %d, %d = % x, %d", part, n, b, e)
		}
		if size := pack.Size(m); size != 0 {
			t.Errorf("Size with a flaw in %d, %d = %d", part, n, size)
		}
		for _, asked := range append(noParts(), 0, 1, 2, 3, 4, 5, 6, 7, 8, 9, 10, 11, 12, 13, 14) {
			if b, e := pack.Section(m, asked); b != nil || e != api.ErrArg {
				t.Errorf("Section %d with a flaw in %d, %d = % x, %d", asked, part, n, b, e)
			}
		}
	}
	if len(seen) != parts {
		t.Errorf("%d parts have a flaw; want %d", len(seen), parts)
	}
}

// Promise 11.1: as many bytes as there may be, and more.
func TestPackOfMuch(t *testing.T) {
	for _, n := range []int{50000, 65500, 65533, 65534, 65535} {
		m := ground.Sized(n)
		b := packed(t, m)
		back, ok := imageOf(b)
		if len(b) != n || !ok || !image.Same(back, m) {
			t.Errorf("an image of %d bytes: %d, %t", n, len(b), ok)
		}
	}
	most := ground.LeastImage()
	wide := ground.Sized(1 << 16).Ingress
	most.Actions = ground.Several(api.Action{Params: []int{1, 2, 3, 4, 5, 6, 7, 8}, Code: wide[0].Code}, 32, func(x *api.Action, s string) { x.Name = s })
	most.Ingress, most.Egress = wide, wide
	for _, m := range []api.Image{ground.Sized(65536), ground.Sized(65537), ground.Sized(65600), ground.Sized(70000), most} {
		want := len(sectionsOf(t, m)) // its sections are told yet
		if n := pack.Size(m); n != want || n <= 65535 {
			t.Errorf("Size of an image of %d bytes = %d", want, n)
		}
		if b, e := pack.Pack(m); b != nil || e != api.ErrLong {
			t.Errorf("Pack of an image of %d bytes = %d bytes, %d", want, len(b), e)
		}
	}
	if n := pack.Size(ground.Sized(65536)); n != 65536 {
		t.Errorf("Size = %d; want 65536", n)
	}
}

// What is told is new memory, and what is handed in stays.
func TestPackIsNewMemory(t *testing.T) {
	for i, m := range ground.Images() {
		kept := image.Copy(m)
		want := packed(t, m)
		first, second := packed(t, m), packed(t, m)
		ground.Turn(first)
		is(t, second, want, "turned what was told of the image", i)
		for part := range parts {
			first, _ := pack.Section(m, part)
			second, _ := pack.Section(m, part)
			again := slices.Clone(second)
			ground.Turn(first)
			is(t, second, again, "turned a section of the image", i, part)
		}
		is(t, packed(t, m), want, "Pack behind what was turned", i)
		if !image.Same(m, kept) || !reflect.DeepEqual(m, ground.Images()[i]) {
			t.Errorf("the image %d is changed", i)
		}
	}
}
