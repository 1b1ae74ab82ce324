package wire_test

import (
	"bytes"
	"fmt"
	"math"
	"math/big"
	"regexp"
	"slices"
	"strings"
	"sync"
	"testing"

	"shunter/api"
	"shunter/ground"
	"shunter/wire"
)

// The model counts with numbers of any size, and tells names by a regular expression.

const letter = `A-Za-z_\x{c0}-\x{d6}\x{d8}-\x{f6}\x{f8}-\x{24f}\x{391}-\x{3a1}\x{3a3}-\x{3c9}\x{400}-\x{4ff}`

var nameForm = regexp.MustCompile(`^[` + letter + `][` + letter + `0-9.-]{0,23}$`)

func power(n int) *big.Int {
	return new(big.Int).Lsh(big.NewInt(1), uint(n))
}

// laid are a number's lowest bytes, of one below 0 too.
func laid(n *big.Int, count int) []byte {
	return new(big.Int).Mod(n, power(8*count)).FillBytes(make([]byte, count))
}

func numberBytes(n, count int) []byte {
	return laid(big.NewInt(int64(n)), count)
}

func numberOf(v api.Vec) *big.Int {
	n := new(big.Int).SetUint64(v.Hi)
	return n.Add(n.Lsh(n, 64), new(big.Int).SetUint64(v.Lo))
}

func rowOf(w int, n *big.Int) api.Vec {
	b := laid(n, 16)
	return api.Vec{W: w, Hi: new(big.Int).SetBytes(b[:8]).Uint64(), Lo: new(big.Int).SetBytes(b[8:]).Uint64()}
}

func mayRow(v api.Vec) bool {
	return v.W >= 1 && v.W <= 128 && numberOf(v).BitLen() <= v.W
}

// fewest is how many bytes hold w bits.
func fewest(w int) int {
	n := 0
	for 8*n < w {
		n++
	}
	return n
}

func rowBytes(v api.Vec) []byte {
	if !mayRow(v) {
		return []byte{0}
	}
	return append([]byte{byte(v.W)}, laid(numberOf(v), fewest(v.W))...)
}

func nameBytes(s string) []byte {
	if len(s) > 255 {
		return []byte{0}
	}
	return append([]byte{byte(len(s))}, s...)
}

func listBytes[T any](l []T, one func(x T) []byte) []byte {
	if len(l) > 255 {
		return []byte{0}
	}
	b := []byte{byte(len(l))}
	for _, x := range l {
		b = append(b, one(x)...)
	}
	return b
}

func rowsBytes(l []api.Vec) []byte {
	return listBytes(l, rowBytes)
}

func numbersBytes(l []int) []byte {
	return listBytes(l, func(n int) []byte { return numberBytes(n, 1) })
}

// walk is what a Reader must be.
type walk struct {
	b  []byte
	at int
	f  *wire.Fault
}

func (k *walk) wrong(e api.Errno) {
	if k.f == nil {
		k.f = &wire.Fault{E: e, At: k.at}
	}
}

// here are n bytes from so many ahead on, or none, if there are too few.
func (k *walk) here(ahead, n int) []byte {
	if k.at+ahead+n > len(k.b) {
		return nil
	}
	return k.b[k.at+ahead : k.at+ahead+n]
}

func (k *walk) number(count, most int, e api.Errno) int {
	if k.f != nil {
		return 0
	}
	b := k.here(0, count)
	if b == nil {
		k.wrong(api.ErrEnd)
		return 0
	}
	n := new(big.Int).SetBytes(b)
	if n.Cmp(big.NewInt(int64(most))) > 0 {
		k.wrong(e)
		return 0
	}
	k.at += count
	return int(n.Int64())
}

func (k *walk) row() api.Vec {
	if k.f != nil {
		return api.Vec{}
	}
	head := k.here(0, 1)
	if head == nil {
		k.wrong(api.ErrEnd)
		return api.Vec{}
	}
	w := int(head[0])
	if w == 0 || w > 128 {
		k.wrong(api.ErrWidth)
		return api.Vec{}
	}
	b := k.here(1, fewest(w))
	if b == nil {
		k.wrong(api.ErrEnd)
		return api.Vec{}
	}
	n := new(big.Int).SetBytes(b)
	if n.Cmp(power(w)) >= 0 {
		k.wrong(api.ErrForm)
		return api.Vec{}
	}
	k.at += 1 + len(b)
	return rowOf(w, n)
}

func (k *walk) name() string {
	if k.f != nil {
		return ""
	}
	head := k.here(0, 1)
	if head == nil || k.here(0, 1+int(head[0])) == nil {
		k.wrong(api.ErrEnd)
		return ""
	}
	s := string(k.here(1, int(head[0])))
	if !nameForm.MatchString(s) {
		k.wrong(api.ErrForm)
		return ""
	}
	k.at += 1 + len(s)
	return s
}

func walked[T any](k *walk, most int, one func() T) []T {
	var l []T
	n := k.number(1, most, api.ErrLong)
	for len(l) < n && k.f == nil {
		l = append(l, one())
	}
	if k.f != nil {
		return nil
	}
	return l
}

func (k *walk) end() *wire.Fault {
	switch {
	case k.f != nil:
		return k.f
	case k.at < len(k.b):
		return &wire.Fault{E: api.ErrLong, At: k.at}
	}
	return nil
}

// step is a call of a Reader, and what the model answers to it.
type step struct {
	call  string
	real  func(r *wire.Reader) any
	model func(k *walk) any
}

func readByte(most int) step {
	return step{fmt.Sprintf("Byte(%d)", most), func(r *wire.Reader) any { return r.Byte(most) }, func(k *walk) any { return k.number(1, most, api.ErrRange) }}
}

func readTwo(most int) step {
	return step{fmt.Sprintf("Two(%d)", most), func(r *wire.Reader) any { return r.Two(most) }, func(k *walk) any { return k.number(2, most, api.ErrRange) }}
}

func readFour(most int) step {
	return step{fmt.Sprintf("Four(%d)", most), func(r *wire.Reader) any { return r.Four(most) }, func(k *walk) any { return k.number(4, most, api.ErrRange) }}
}

func readRow() step {
	return step{"Vec()", func(r *wire.Reader) any { return r.Vec() }, func(k *walk) any { return k.row() }}
}

func readName() step {
	return step{"Name()", func(r *wire.Reader) any { return r.Name() }, func(k *walk) any { return k.name() }}
}

func readRows(most int) step {
	return step{fmt.Sprintf("Vecs(%d)", most), func(r *wire.Reader) any { return r.Vecs(most) }, func(k *walk) any { return walked(k, most, k.row) }}
}

func readNumbers(count, most int) step {
	return step{fmt.Sprintf("Numbers(%d, %d)", count, most), func(r *wire.Reader) any { return r.Numbers(count, most) }, func(k *walk) any {
		return walked(k, count, func() int { return k.number(1, most, api.ErrRange) })
	}}
}

func failing(e api.Errno) step {
	return step{fmt.Sprintf("Fail(%d)", e), func(r *wire.Reader) any { r.Fail(e); return nil }, func(k *walk) any {
		if e != api.OK {
			k.wrong(e)
		}
		return nil
	}}
}

// steps are all calls, with all that they may be given.
func steps() []step {
	l := []step{readRow(), readName()}
	for _, most := range mosts() {
		l = append(l, readByte(most), readTwo(most), readFour(most), readRows(most))
		for _, other := range []int{-1, 0, 1, 8, 254, 255, math.MaxInt} {
			l = append(l, readNumbers(most, other))
		}
	}
	for _, e := range errnos() {
		l = append(l, failing(e))
	}
	return l
}

// mosts are numbers about the edges of one, two and four bytes, and of ints.
func mosts() []int {
	return []int{math.MinInt, math.MinInt32, -256, -1, 0, 1, 2, 8, 15, 16, 63, 64, 127, 128, 129, 254, 255, 256, 65534, 65535, 65536, 1<<31 - 1, 1 << 31, 1<<32 - 2, 1<<32 - 1, 1 << 32, math.MaxInt - 1, math.MaxInt}
}

func errnos() []api.Errno {
	var l []api.Errno
	for e := api.OK; e <= api.ErrStuck; e++ {
		l = append(l, e)
	}
	return append(l, 20, -1, math.MaxInt, math.MinInt)
}

// same is the text of a call's answer; nil and empty lists are one.
func same(x any) string {
	return fmt.Sprintf("%T %v", x, x)
}

// stands asks where a Reader is, what is left, and what was wrong.
func stands(t *testing.T, r *wire.Reader, k *walk, calls ...string) {
	t.Helper()
	if r.At() != k.at || r.Left() != len(k.b)-k.at || r.Bad() != (k.f != nil) {
		t.Fatalf("%x behind %q: at %d, %d left, bad %t; want at %d, %d left, a fault %v", k.b, calls, r.At(), r.Left(), r.Bad(), k.at, len(k.b)-k.at, k.f)
	}
	ends(t, r, k.end(), k.b, calls)
}

// ends asks for a fault, by a *wire.Fault, or for none at all.
func ends(t *testing.T, r *wire.Reader, want *wire.Fault, args ...any) {
	t.Helper()
	err := r.End()
	if want == nil {
		if err != nil {
			t.Fatalf("%x: End = %v; want none", args, err)
		}
		return
	}
	if f, ok := err.(*wire.Fault); !ok || f == nil || *f != *want {
		t.Fatalf("%x: End = %v; want %v", args, err, want)
	}
}

// asModel does all steps, one after the other, and holds each answer against the model's.
func asModel(t *testing.T, b []byte, l ...step) {
	t.Helper()
	r, k := wire.Read(b), &walk{b: slices.Clone(b)}
	var calls []string
	stands(t, r, k)
	for _, s := range l {
		calls = append(calls, s.call)
		if got, want := same(s.real(r)), same(s.model(k)); got != want {
			t.Fatalf("%x: %q = %s; want %s", b, calls, got, want)
		}
		stands(t, r, k, calls...)
	}
	if !bytes.Equal(b, k.b) {
		t.Fatalf("%q changed %x to %x", calls, k.b, b)
	}
}

// reads asks that a Reader answers as told, and is then at a place without a fault.
func reads(t *testing.T, b string, s step, want any, at int) {
	t.Helper()
	r := wire.Read([]byte(b))
	if got := s.real(r); same(got) != same(want) || r.At() != at || r.Left() != len(b)-at || r.Bad() {
		t.Errorf("%s of %x = %v, at %d, %d left, bad %t; want %v, at %d", s.call, b, got, r.At(), r.Left(), r.Bad(), want, at)
	}
}

// faulty asks for a fault; the answer is the zero value of the model's.
func faulty(t *testing.T, b string, s step, e api.Errno, at int) {
	t.Helper()
	r := wire.Read([]byte(b))
	if got, want := s.real(r), s.model(&walk{f: &wire.Fault{}}); same(got) != same(want) || !r.Bad() {
		t.Errorf("%s of %x = %v, bad %t; want %v and a fault", s.call, b, got, r.Bad(), want)
	}
	if gotE, gotAt := wire.Why(r.End()); gotE != e || gotAt != at {
		t.Errorf("%s of %x: fault %d at %d; want %d at %d", s.call, b, gotE, gotAt, e, at)
	}
}

// ints are those about the edges of all counts of bytes, and some that are mixed.
func ints() []int {
	l := []int{math.MinInt, math.MaxInt}
	for n := range 62 {
		for _, k := range []int{-1, 0, 1} {
			l = append(l, 1<<n+k, -1<<n+k)
		}
	}
	x := uint64(7)
	for range 200 {
		l = append(l, int(ground.Number(&x)))
	}
	return l
}

// rows are those of all widths, about the edges of each, and some that are mixed; they are made once.
var rows = sync.OnceValue(func() []api.Vec {
	var l []api.Vec
	x := uint64(128)
	for w := 1; w <= 128; w++ {
		for n := 0; n < w; n += max(1, w/7) {
			l = append(l, rowOf(w, power(n)), rowOf(w, new(big.Int).Sub(power(n), big.NewInt(1))))
		}
		l = append(l, rowOf(w, new(big.Int).Sub(power(w), big.NewInt(1))), rowOf(w, new(big.Int).Rsh(power(w), 1)))
		for range 4 {
			n := numberOf(api.Vec{Hi: ground.Number(&x), Lo: ground.Number(&x)})
			l = append(l, rowOf(w, n.Mod(n, power(w))))
		}
	}
	return l
})

// wrongRows are rows that may not be.
func wrongRows() []api.Vec {
	l := []api.Vec{{}, {Lo: 1}, {W: 1, Lo: 2}, {W: 1, Hi: 1}, {W: 8, Lo: 256}, {W: 12, Lo: 0x1000}, {W: 63, Lo: 1 << 63}, {W: 64, Hi: 1}, {W: 65, Hi: 2}, {W: 127, Hi: 1 << 63}, {W: 8, Hi: math.MaxUint64, Lo: math.MaxUint64}}
	for _, w := range []int{math.MinInt, math.MinInt32, -256, -255, -128, -8, -1, 0, 129, 136, 255, 256, 257, 264, 384, math.MaxInt32, math.MaxInt} {
		l = append(l, api.Vec{W: w}, api.Vec{W: w, Lo: 1}, api.Vec{W: w, Hi: math.MaxUint64, Lo: math.MaxUint64})
	}
	return l
}

func names() []string {
	return []string{"a", "Z", "_", "ip", "ip.ttl", "a-", "a.", "a--..9", "x0x1", "_9", "Straße", "ÉTÉ", "λογος", "Ёлка", "Àɏ", strings.Repeat("a", 24), strings.Repeat("ё", 24), "a" + strings.Repeat("-", 23)}
}

// wrongNames are texts of at most 255 bytes that are no names.
func wrongNames() []string {
	return []string{"", "9", "-", ".", "-a", ".a", "9a", " ", " a", "a ", "a b", "a\n", "\x00", "a\x00", "a,b", "a'b", "%", "×", "÷", "a×", "\u03a2", "€", "😀", "日", "٣", "\ufffd", "a\ufffd", "\x80", "\xff", "a\xff", "é\xc3", "\xc3", strings.Repeat("a", 25), strings.Repeat("é", 25), strings.Repeat("a", 255), strings.Repeat("\xff", 255), strings.Repeat("é", 127)}
}

// rowLists are lists of rows, of all lengths that may be.
func rowLists() [][]api.Vec {
	all := rows()
	l := [][]api.Vec{nil, {}, {{W: 1}}, {{W: 1, Lo: 1}, {W: 128, Hi: math.MaxUint64}, {W: 12, Lo: 0xabc}}, all[:2], all[100:108], all[:254], all[300:555]}
	for n := range 20 {
		l = append(l, all[37*n:37*n+n])
	}
	return l
}

func numberLists() [][]int {
	var all []int
	for n := range 256 {
		all = append(all, n)
	}
	return [][]int{nil, {}, {0}, {255}, {0, 0}, {3, 1, 2}, {0, 1, 127, 128, 254, 255}, all[:254], all[:255], all[1:]}
}
