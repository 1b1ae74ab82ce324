package wire_test

import (
	"bytes"
	"fmt"
	"math"
	"slices"
	"strings"
	"testing"

	"shunter/api"
	"shunter/ground"
	"shunter/wire"
)

// Promise 7.2.

func TestReadNumbers(t *testing.T) {
	for n := range 256 {
		for _, most := range append(mosts(), n-1, n, n+1) {
			asModel(t, []byte{byte(n)}, readByte(most))
			asModel(t, []byte{byte(n), 7}, readByte(most), readByte(255))
		}
	}
	for n := range 1 << 16 {
		b := []byte{byte(n >> 8), byte(n)}
		for _, most := range []int{n - 1, n, 0xff00} {
			asModel(t, b, readTwo(most))
		}
	}
	for _, n := range ints() {
		b := numberBytes(n, 4)
		for _, most := range append(mosts(), n, n&0xffffffff-1, n&0xffffffff) {
			asModel(t, b, readFour(most))
			asModel(t, b, readTwo(most), readTwo(most))
		}
	}
}

func TestReadNumbersEdges(t *testing.T) {
	reads(t, "\x00", readByte(0), 0, 1)
	reads(t, "\xff", readByte(255), 255, 1)
	reads(t, "\xff", readByte(math.MaxInt), 255, 1)
	reads(t, "\x08", readByte(8), 8, 1)
	reads(t, "\x12\x34", readTwo(0x1234), 0x1234, 2)
	reads(t, "\xff\xff\xff", readTwo(65535), 65535, 2)
	reads(t, "\x01\x00", readTwo(256), 256, 2)
	reads(t, "\x12\x34\x56\x78", readFour(0x12345678), 0x12345678, 4)
	reads(t, "\xff\xff\xff\xff", readFour(1<<32-1), 1<<32-1, 4)
	reads(t, "\x80\x00\x00\x00\x00", readFour(1<<31), 1<<31, 4)
	faulty(t, "\x09", readByte(8), api.ErrRange, 0)
	faulty(t, "\x00", readByte(-1), api.ErrRange, 0)
	faulty(t, "\x00", readByte(math.MinInt), api.ErrRange, 0)
	faulty(t, "\x12\x34", readTwo(0x1233), api.ErrRange, 0)
	faulty(t, "\x01\x00", readTwo(255), api.ErrRange, 0)
	faulty(t, "\x00\x00", readTwo(-1), api.ErrRange, 0)
	faulty(t, "\xff\xff\xff\xff", readFour(1<<32-2), api.ErrRange, 0)
	faulty(t, "\x00\x00\x00\x00", readFour(-1), api.ErrRange, 0)
}

// Too few bytes are told first, whatever a number may be.
func TestReadNumbersCut(t *testing.T) {
	for _, most := range mosts() {
		for _, b := range []string{"", "\x00", "\xff", "\xff\xff", "\xff\xff\xff"} {
			if len(b) < 1 {
				faulty(t, b, readByte(most), api.ErrEnd, 0)
			}
			if len(b) < 2 {
				faulty(t, b, readTwo(most), api.ErrEnd, 0)
			}
			faulty(t, b, readFour(most), api.ErrEnd, 0)
		}
	}
}

func TestReadRows(t *testing.T) {
	for _, v := range rows() {
		b := rowBytes(v)
		reads(t, string(b), readRow(), v, len(b))
		reads(t, string(b)+"\xff", readRow(), v, len(b))
		for n := range b {
			faulty(t, string(b[:n]), readRow(), api.ErrEnd, 0)
		}
	}
}

// Each width that a byte tells, with numbers about its edges, and with one byte fewer than it asks for, the right number of them, and one more.
func TestReadRowsOfAllWidths(t *testing.T) {
	for w := range 256 {
		for _, c := range []byte{0, 1, 2, 0x0f, 0x10, 0x7f, 0x80, 0xff} {
			for n := range 36 {
				b := append([]byte{byte(w)}, bytes.Repeat([]byte{c}, n)...)
				asModel(t, b, readRow())
			}
		}
		for shift := range 9 {
			b := slices.Concat([]byte{byte(w)}, laid(power(8*((w-1)/8)+shift), fewest(max(w, 1))))
			asModel(t, b, readRow())
		}
	}
}

func TestReadRowsEdges(t *testing.T) {
	reads(t, "\x0c\x0a\xbc", readRow(), api.Vec{W: 12, Lo: 0xabc}, 3)
	reads(t, "\x0c\x0f\xff", readRow(), api.Vec{W: 12, Lo: 0xfff}, 3)
	reads(t, "\x0c\x00\x00", readRow(), api.Vec{W: 12}, 3)
	reads(t, "\x01\x01", readRow(), api.Vec{W: 1, Lo: 1}, 2)
	reads(t, "\x80"+strings.Repeat("\xff", 16), readRow(), api.Vec{W: 128, Hi: math.MaxUint64, Lo: math.MaxUint64}, 17)
	reads(t, "\x41\x01\x00\x00\x00\x00\x00\x00\x00\x02", readRow(), api.Vec{W: 65, Hi: 1, Lo: 2}, 10)
	faulty(t, "", readRow(), api.ErrEnd, 0)
	faulty(t, "\x0c", readRow(), api.ErrEnd, 0)
	faulty(t, "\x0c\xff", readRow(), api.ErrEnd, 0)
	faulty(t, "\x0c\x10\x00", readRow(), api.ErrForm, 0)
	faulty(t, "\x01\x02", readRow(), api.ErrForm, 0)
	faulty(t, "\x7f\x80"+strings.Repeat("\x00", 15), readRow(), api.ErrForm, 0)
	faulty(t, "\x41\x02"+strings.Repeat("\x00", 8), readRow(), api.ErrForm, 0)
	// A wrong width is told, if nothing is behind it, too.
	for _, b := range []string{"\x00", "\x81", "\xff", "\x00\x00", "\x81" + strings.Repeat("\x00", 17), "\xff" + strings.Repeat("\xff", 40)} {
		faulty(t, b, readRow(), api.ErrWidth, 0)
	}
}

func TestReadNames(t *testing.T) {
	for _, s := range names() {
		b := string(nameBytes(s))
		reads(t, b, readName(), s, len(b))
		reads(t, b+"a", readName(), s, len(b))
		for n := range len(b) {
			faulty(t, b[:n], readName(), api.ErrEnd, 0)
		}
	}
	for _, s := range wrongNames() {
		b := string(nameBytes(s))
		faulty(t, b, readName(), api.ErrForm, 0)
		// Too few bytes are told before what those are that are there.
		for n := range len(b) {
			faulty(t, b[:n], readName(), api.ErrEnd, 0)
		}
	}
}

// Each rune up to beyond the last letter stands at a name's front, and behind a letter; so does each byte.
func TestReadNamesOfRunes(t *testing.T) {
	var texts []string
	for c := range rune(0x600) {
		texts = append(texts, string(c))
	}
	for c := range 256 {
		texts = append(texts, string([]byte{byte(c)}))
	}
	for _, s := range texts {
		asModel(t, nameBytes(s), readName())
		asModel(t, nameBytes("a"+s), readName())
		asModel(t, nameBytes(strings.Repeat(s, 24)), readName())
		asModel(t, nameBytes(strings.Repeat(s, 25)), readName())
	}
	for n := range 256 {
		asModel(t, append([]byte{byte(n)}, bytes.Repeat([]byte("b"), 255)...), readName(), readName())
	}
}

func TestReadLists(t *testing.T) {
	for _, l := range rowLists() {
		b := rowsBytes(l)
		for _, most := range []int{len(l), len(l) + 1, 255, 256, math.MaxInt} {
			reads(t, string(b), readRows(most), l, len(b))
		}
		for _, most := range []int{len(l) - 1, -1, math.MinInt} {
			faulty(t, string(b), readRows(most), api.ErrLong, 0)
		}
		asModel(t, append(b, 1), readRows(255), readByte(1))
	}
	for _, l := range numberLists() {
		b := numbersBytes(l)
		greatest := 0
		for _, n := range l {
			greatest = max(greatest, n)
		}
		for _, count := range []int{len(l), len(l) + 1, 255, 256, math.MaxInt} {
			reads(t, string(b), readNumbers(count, greatest), l, len(b))
			reads(t, string(b), readNumbers(count, math.MaxInt), l, len(b))
		}
		for _, count := range []int{len(l) - 1, -1, math.MinInt} {
			faulty(t, string(b), readNumbers(count, greatest), api.ErrLong, 0)
			faulty(t, string(b), readNumbers(count, -1), api.ErrLong, 0)
		}
		for _, most := range mosts() {
			asModel(t, b, readNumbers(255, most))
		}
	}
}

// A list that is cut anywhere ends too early, where that begins which isn't whole.
func TestReadListsCut(t *testing.T) {
	l := rowLists()[6]
	b := rowsBytes(l)
	begins := 0 // of the thing that the byte n stands in
	next := 1
	for n := range b {
		if n == next {
			begins, next = n, n+len(rowBytes(l[0]))
			l = l[1:]
		}
		faulty(t, string(b[:n]), readRows(255), api.ErrEnd, begins)
	}
	for _, l := range numberLists() {
		b := numbersBytes(l)
		for n := range b {
			faulty(t, string(b[:n]), readNumbers(255, 255), api.ErrEnd, n)
		}
	}
}

func TestReadListsEdges(t *testing.T) {
	reads(t, "\x00", readRows(0), []api.Vec{}, 1)
	reads(t, "\x02\x01\x01\x09\x00\x03\xff", readRows(2), []api.Vec{{W: 1, Lo: 1}, {W: 9, Lo: 3}}, 6)
	reads(t, "\x00", readNumbers(0, -1), []int{}, 1)
	reads(t, "\x03\x02\x00\x01", readNumbers(8, 2), []int{2, 0, 1}, 4)
	faulty(t, "", readRows(0), api.ErrEnd, 0)
	faulty(t, "", readRows(-1), api.ErrEnd, 0)
	faulty(t, "\x00", readRows(-1), api.ErrLong, 0)
	faulty(t, "\x02", readRows(1), api.ErrLong, 0)
	faulty(t, "\x02\x00", readRows(1), api.ErrLong, 0)
	faulty(t, "\x02", readRows(2), api.ErrEnd, 1)
	faulty(t, "\x02\x08\x01\x00\x01", readRows(2), api.ErrWidth, 3)
	faulty(t, "\x02\x08\x01\x81", readRows(2), api.ErrWidth, 3)
	faulty(t, "\x02\x08\x01\x04\x10", readRows(2), api.ErrForm, 3)
	faulty(t, "\x03\x08\x01\x04\x10\x00", readRows(255), api.ErrForm, 3)
	faulty(t, "\x02\x08\x01\x0c\x01", readRows(2), api.ErrEnd, 3)
	faulty(t, "\x02\x08\x01", readRows(2), api.ErrEnd, 3)
	faulty(t, "", readNumbers(0, 0), api.ErrEnd, 0)
	faulty(t, "\x02\x09", readNumbers(1, 8), api.ErrLong, 0)
	faulty(t, "\x01\x00", readNumbers(1, -1), api.ErrRange, 1)
	faulty(t, "\x03\x08\x09\x0a", readNumbers(3, 8), api.ErrRange, 2)
	faulty(t, "\x03\x08\x09", readNumbers(3, 8), api.ErrRange, 2)
	faulty(t, "\x03\x08\x08", readNumbers(3, 8), api.ErrEnd, 3)
}

// The first fault is kept: from then on all is zero, and nothing is taken.
func TestFirstFault(t *testing.T) {
	for _, c := range []struct {
		b  string
		s  step
		e  api.Errno
		at int
	}{
		{"\x03\x04\x05\x06\x07", readByte(2), api.ErrRange, 0}, {"\x03\x04\x05\x06\x07", readTwo(3), api.ErrRange, 0}, {"\x03\x04\x05\x06\x07", readFour(3), api.ErrRange, 0}, {"\x01\x01\x01", readFour(3), api.ErrEnd, 0},
		{"\x00\x00\x00\x00", readRow(), api.ErrWidth, 0}, {"\x01\x02\x01\x01", readRow(), api.ErrForm, 0}, {"\x18\x01\x01", readRow(), api.ErrEnd, 0}, {"\x01\x01\x01a", readName(), api.ErrForm, 0}, {"\x04aaa", readName(), api.ErrEnd, 0},
		{"\x03\x01\x01\x01\x01\x01\x01", readRows(2), api.ErrLong, 0}, {"\x02\x01\x01\x00\x01\x01\x01", readRows(2), api.ErrWidth, 3}, {"\x02\x01\x01\x01\x02\x01\x01", readRows(2), api.ErrForm, 3}, {"\x02\x01\x01\x18\x01\x01", readRows(2), api.ErrEnd, 3},
		{"\x03\x01\x01\x01\x01\x01\x01", readNumbers(2, 8), api.ErrLong, 0}, {"\x03\x01\x09\x01\x01\x01\x01", readNumbers(3, 8), api.ErrRange, 2}, {"\x03\x01\x01", readNumbers(3, 8), api.ErrEnd, 3},
		{"\x01\x01\x01\x01", failing(api.ErrStuck), api.ErrStuck, 0}, {"\x01\x01\x01\x01", failing(-1), -1, 0},
	} {
		for _, then := range steps() {
			r := wire.Read([]byte("\x01\x02" + c.b))
			r.Two(65535)
			c.s.real(r)
			for range 2 {
				if got, want := then.real(r), then.model(&walk{f: &wire.Fault{}}); same(got) != same(want) {
					t.Fatalf("%s behind %s of %x = %v; want %v", then.call, c.s.call, c.b, got, want)
				}
			}
			if r.At() != 2+c.at || r.Left() != len(c.b)-c.at || !r.Bad() {
				t.Fatalf("%s behind %s of %x: at %d, %d left, bad %t; want at %d", then.call, c.s.call, c.b, r.At(), r.Left(), r.Bad(), 2+c.at)
			}
			ends(t, r, &wire.Fault{E: c.e, At: 2 + c.at}, c.b, c.s.call, then.call)
		}
	}
}

func TestFail(t *testing.T) {
	for _, e := range errnos() {
		for n := range 4 {
			r := wire.Read([]byte{1, 2, 3})
			for range n {
				r.Byte(255)
			}
			r.Fail(api.OK)
			if r.Bad() || r.At() != n {
				t.Fatalf("at %d, bad %t behind OK; want at %d", r.At(), r.Bad(), n)
			}
			r.Fail(e)
			if r.Bad() != (e != api.OK) || r.At() != n || r.Left() != 3-n {
				t.Fatalf("at %d, bad %t behind %d; want at %d", r.At(), r.Bad(), e, n)
			}
			if e == api.OK {
				continue
			}
			r.Fail(api.ErrArg)
			r.Fail(api.OK)
			if r.Byte(255) != 0 || r.At() != n {
				t.Fatalf("Byte behind the fault %d goes on", e)
			}
			ends(t, r, &wire.Fault{E: e, At: n})
		}
	}
}

// mixed are bytes of things that are right, and of some that are wrong, or cut.
func mixed(x *uint64) []byte {
	var b []byte
	rowBytes := func() []byte { l := rows(); return rowBytes(l[ground.Number(x)%uint64(len(l))]) }
	for range ground.Number(x) % 12 {
		switch ground.Number(x) % 8 {
		case 0:
			b = append(b, rowBytes()...)
		case 1:
			l := names()
			b = append(b, nameBytes(l[ground.Number(x)%uint64(len(l))])...)
		case 2:
			b = append(b, byte(2))
			b = append(b, rowBytes()...)
			b = append(b, rowBytes()...)
		case 3:
			b = append(b, 3, 1, 2, 3)
		case 4:
			l := wrongNames()
			b = append(b, nameBytes(l[ground.Number(x)%uint64(len(l))])...)
		case 5:
			b = append(b, byte(ground.Number(x)))
		default:
			b = append(b, byte(ground.Number(x)%20))
		}
	}
	if ground.Number(x)%3 == 0 && len(b) > 0 {
		b = b[:ground.Number(x)%uint64(len(b))]
	}
	return b
}

// Calls in any order on any bytes.
func TestMixedCalls(t *testing.T) {
	all := steps()
	lasting := []step{readByte(255), readTwo(65535), readFour(1<<32 - 1), readRow(), readName(), readRows(255), readNumbers(255, 255), failing(api.OK)}
	x := uint64(72)
	for range 20000 {
		var l []step
		for range 1 + ground.Number(&x)%8 {
			if from := ground.Number(&x); from%5 == 0 {
				l = append(l, all[from/5%uint64(len(all))])
			} else {
				l = append(l, lasting[from/5%uint64(len(lasting))])
			}
		}
		asModel(t, mixed(&x), l...)
	}
}

// Each call on each text of at most two bytes.
func TestCallsOnFewBytes(t *testing.T) {
	l := []step{readByte(255), readByte(8), readTwo(65535), readTwo(300), readFour(1<<32 - 1), readRow(), readName(), readRows(255), readRows(1), readNumbers(255, 255), readNumbers(1, 8)}
	for _, s := range l {
		asModel(t, nil, s)
		for a := range 256 {
			asModel(t, []byte{byte(a)}, s)
			for b := range 256 {
				asModel(t, []byte{byte(a), byte(b)}, s, readByte(255))
			}
		}
	}
}

// What is handed in is neither changed nor kept.
func TestReadKeepsNothing(t *testing.T) {
	want := slices.Concat(rowBytes(api.Vec{W: 12, Lo: 0xabc}), nameBytes("ip.ttl"), numbersBytes([]int{1, 2}), rowsBytes([]api.Vec{{W: 8, Lo: 1}}))
	b := ground.Roomy(want)
	all := slices.Clone(b[:cap(b)])
	r := wire.Read(b)
	ground.Turn(b)
	v, s, n, l := r.Vec(), r.Name(), r.Numbers(2, 2), r.Vecs(1)
	if v != (api.Vec{W: 12, Lo: 0xabc}) || s != "ip.ttl" || !slices.Equal(n, []int{1, 2}) || !slices.Equal(l, []api.Vec{{W: 8, Lo: 1}}) {
		t.Errorf("read of bytes that were written over behind: %v %q %v %v", v, s, n, l)
	}
	ends(t, r, nil)
	ground.Turn(b)
	if !bytes.Equal(b[:cap(b)], all) {
		t.Errorf("changed to %x; want %x", b[:cap(b)], all)
	}
}

// What is told is new memory: a list that is changed changes no other answer, and no Reader.
func TestReadListsAreNew(t *testing.T) {
	b := slices.Repeat(slices.Concat(numbersBytes([]int{1, 2, 3}), rowsBytes([]api.Vec{{W: 8, Lo: 1}, {W: 8, Lo: 2}})), 20)
	r := wire.Read(b)
	var numbers [][]int
	var rows [][]api.Vec
	for range 20 {
		n, l := r.Numbers(3, 3), r.Vecs(2)
		if !slices.Equal(n, []int{1, 2, 3}) || !slices.Equal(l, []api.Vec{{W: 8, Lo: 1}, {W: 8, Lo: 2}}) {
			t.Fatalf("read %v, %v", n, l)
		}
		for i := range n[:cap(n)] {
			n[:cap(n)][i] = len(numbers)
		}
		for i := range l[:cap(l)] {
			l[:cap(l)][i].W = len(rows)
		}
		numbers, rows = append(numbers, n), append(rows, l)
	}
	for i := range numbers {
		if !slices.Equal(numbers[i], []int{i, i, i}) || rows[i][0].W != i || rows[i][1].W != i {
			t.Fatalf("the answers of round %d: %v, %v", i, numbers[i], rows[i])
		}
	}
	ends(t, r, nil)
}

// Promise 7.3.

func TestPlaces(t *testing.T) {
	b := slices.Concat([]byte{5}, numberBytes(300, 2), numberBytes(70000, 4), rowBytes(api.Vec{W: 9, Lo: 3}), nameBytes("é"), numbersBytes([]int{1, 2}), rowsBytes([]api.Vec{{W: 1}}))
	r := wire.Read(b)
	at := 0
	for _, c := range []struct {
		s     step
		count int
	}{{failing(api.OK), 0}, {readByte(5), 1}, {readTwo(300), 2}, {readFour(70000), 4}, {readRow(), 3}, {readName(), 3}, {readNumbers(2, 2), 3}, {readRows(1), 3}} {
		c.s.real(r)
		at += c.count
		if r.At() != at || r.Left() != len(b)-at || r.Bad() {
			t.Errorf("behind %s: at %d, %d left, bad %t; want at %d", c.s.call, r.At(), r.Left(), r.Bad(), at)
		}
	}
	ends(t, r, nil)
}

// End tells of bytes that are left, but keeps nothing of it: a Reader goes on behind it.
func TestEnd(t *testing.T) {
	for n := range 4 {
		r := wire.Read(make([]byte, n))
		for i := range n {
			ends(t, r, &wire.Fault{E: api.ErrLong, At: i}, n)
			ends(t, r, &wire.Fault{E: api.ErrLong, At: i}, n)
			if r.Bad() || r.At() != i || r.Byte(0) != 0 {
				t.Fatalf("behind End: bad %t, at %d", r.Bad(), r.At())
			}
		}
		ends(t, r, nil, n)
		if r.End() != nil || r.Bad() {
			t.Fatalf("at the end of %d bytes: bad %t", n, r.Bad())
		}
		r.Byte(255)
		ends(t, r, &wire.Fault{E: api.ErrEnd, At: n}, n)
	}
}

// Each End tells a fault of its own.
func TestEndIsNew(t *testing.T) {
	bad := wire.Read([]byte{1, 2})
	bad.Byte(255)
	bad.Byte(1)
	for _, c := range []struct {
		r    *wire.Reader
		want wire.Fault
	}{{bad, wire.Fault{E: api.ErrRange, At: 1}}, {wire.Read([]byte{1}), wire.Fault{E: api.ErrLong}}, {nil, wire.Fault{E: api.ErrArg}}} {
		a, b := wire.Only(c.r.End()), wire.Only(c.r.End())
		a.E, a.At = 99, 99
		if a == b || *b != c.want {
			t.Errorf("a second End = %v; want %v", *b, c.want)
		}
		ends(t, c.r, &c.want)
	}
}

func TestReaderOfNoBytes(t *testing.T) {
	for _, b := range [][]byte{nil, {}} {
		r := wire.Read(b)
		if r == nil || r.At() != 0 || r.Left() != 0 || r.Bad() {
			t.Fatalf("Read(%v) = %v", b, r)
		}
		ends(t, r, nil)
	}
	for _, s := range []step{readByte(0), readTwo(0), readFour(0), readRow(), readName(), readRows(0), readNumbers(0, 0)} {
		faulty(t, "", s, api.ErrEnd, 0)
	}
}

func TestNilReader(t *testing.T) {
	var r *wire.Reader
	for range 2 {
		for _, s := range steps() {
			if got, want := s.real(r), s.model(&walk{f: &wire.Fault{}}); same(got) != same(want) {
				t.Errorf("%s of a nil Reader = %v; want %v", s.call, got, want)
			}
		}
		if r.At() != 0 || r.Left() != 0 || !r.Bad() {
			t.Errorf("a nil Reader: at %d, %d left, bad %t", r.At(), r.Left(), r.Bad())
		}
		ends(t, r, &wire.Fault{E: api.ErrArg})
	}
}

// Promise 7.4.

// things is one of each thing that is written, and the steps that read them.
func things(x *uint64) ([]byte, []step, []any) {
	var b []byte
	var l []step
	var want []any
	add := func(more []byte, s step, x any) {
		b, l, want = more, append(l, s), append(want, x)
	}
	for range 1 + ground.Number(x)%10 {
		n := ground.Number(x)
		switch n % 7 {
		case 0:
			add(wire.Byte(b, int(n>>8&0xff)), readByte(255), int(n>>8&0xff))
		case 1:
			add(wire.Two(b, int(n>>8&0xffff)), readTwo(65535), int(n>>8&0xffff))
		case 2:
			add(wire.Four(b, int(n>>8&0xffffffff)), readFour(1<<32-1), int(n>>8&0xffffffff))
		case 3:
			v := rows()[n>>8%uint64(len(rows()))]
			add(wire.Vec(b, v), readRow(), v)
		case 4:
			s := names()[n>>8%uint64(len(names()))]
			add(wire.Name(b, s), readName(), s)
		case 5:
			v := rowLists()[n>>8%uint64(len(rowLists()))]
			add(wire.Vecs(b, v), readRows(255), v)
		case 6:
			v := numberLists()[n>>8%uint64(len(numberLists()))]
			add(wire.Numbers(b, v), readNumbers(255, 255), v)
		}
	}
	return b, l, want
}

func TestWrittenIsRead(t *testing.T) {
	x := uint64(74)
	for range 2000 {
		b, l, want := things(&x)
		r := wire.Read(b)
		for i, s := range l {
			if got := s.real(r); same(got) != same(want[i]) {
				t.Fatalf("%s = %v; want %v", s.call, got, want[i])
			}
		}
		ends(t, r, nil, b)
		asModel(t, b, l...)
	}
}

// writtenAgain are the bytes of what a step reads.
func writtenAgain(s step, r *wire.Reader) []byte {
	switch x := s.real(r).(type) {
	case int:
		return map[byte]func([]byte, int) []byte{'B': wire.Byte, 'T': wire.Two, 'F': wire.Four}[s.call[0]](nil, x)
	case api.Vec:
		return wire.Vec(nil, x)
	case string:
		return wire.Name(nil, x)
	case []api.Vec:
		return wire.Vecs(nil, x)
	case []int:
		return wire.Numbers(nil, x)
	}
	panic(fmt.Sprint(s.call))
}

func TestReadIsWritten(t *testing.T) {
	l := []step{readByte(255), readTwo(65535), readFour(1<<32 - 1), readRow(), readName(), readRows(255), readNumbers(255, 255)}
	asWritten := func(b []byte) {
		for _, s := range l {
			r := wire.Read(b)
			if again := writtenAgain(s, r); !r.Bad() && !bytes.Equal(again, b[:r.At()]) {
				t.Fatalf("%s of %x is written as %x", s.call, b[:r.At()], again)
			}
		}
	}
	for a := range 256 {
		for b := range 256 {
			asWritten([]byte{byte(a), byte(b)})
			asWritten([]byte{byte(a), byte(b), 'a', 0, 1})
			asWritten([]byte{1, byte(a), byte(b)})
		}
	}
	x := uint64(75)
	for range 5000 {
		asWritten(mixed(&x))
	}
}
