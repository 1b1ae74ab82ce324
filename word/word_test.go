package word_test

import (
	"math"
	"math/big"
	"testing"

	"shunter/ground"
	"shunter/word"
)

var (
	one     = big.NewInt(1)
	modulus = new(big.Int).Lsh(one, 128)
	most    = word.Word{Hi: math.MaxUint64, Lo: math.MaxUint64}
)

// number is what a word is by the chapter: Hi times 2^64, and Lo.
func number(a word.Word) *big.Int {
	n := new(big.Int).SetUint64(a.Hi)
	return n.Add(n.Lsh(n, 64), new(big.Int).SetUint64(a.Lo))
}

// modulo is the word of any number, one below 0 too.
func modulo(n *big.Int) word.Word {
	m := new(big.Int).Mod(n, modulus)
	lo := new(big.Int).And(m, new(big.Int).SetUint64(math.MaxUint64))
	return word.Word{Hi: new(big.Int).Rsh(m, 64).Uint64(), Lo: lo.Uint64()}
}

// sample has the same words in each run: those about the edges, and many that are mixed by a fixed rule.
func sample() []word.Word {
	l := []word.Word{
		{}, {Lo: 1}, {Lo: 2}, {Lo: 3}, {Lo: 10}, {Lo: math.MaxUint64 - 1}, {Lo: math.MaxUint64},
		{Hi: 1}, {Hi: 1, Lo: 1}, {Hi: 1, Lo: math.MaxUint64}, {Hi: 2}, {Hi: math.MaxUint64},
		{Hi: math.MaxUint64, Lo: 1}, {Hi: math.MaxUint64, Lo: math.MaxUint64 - 1}, most,
		{Hi: 0xaaaaaaaaaaaaaaaa, Lo: 0x5555555555555555}, {Hi: 0x0123456789abcdef, Lo: 0xfedcba9876543210},
		{Hi: 0, Lo: 0x0f0f0f0f0f0f0f0f}, {Hi: 0xf0f0f0f0f0f0f0f0, Lo: 0},
	}
	for _, n := range []uint{31, 32, 33, 62, 63, 65, 66, 95, 96, 126, 127} {
		p := new(big.Int).Lsh(one, n)
		l = append(l, modulo(new(big.Int).Sub(p, one)), modulo(p), modulo(new(big.Int).Add(p, one)))
	}
	x := uint64(1)
	for range 40 {
		hi := ground.Number(&x)
		lo := ground.Number(&x)
		l = append(l, word.Word{Hi: hi, Lo: lo}, word.Word{Lo: hi >> (lo % 64)}, word.Word{Hi: lo >> (hi % 64), Lo: hi})
	}
	return l
}

// moves has all that are near to an edge, and those that no int of the other sign goes with.
func moves() []int {
	l := []int{math.MinInt, math.MinInt + 1, math.MinInt32, -1000, 1000, math.MaxInt32, math.MaxInt - 1, math.MaxInt}
	for n := -260; n <= 260; n++ {
		l = append(l, n)
	}
	return l
}

// Promise 1.1.

func TestAdd(t *testing.T) {
	for _, a := range sample() {
		for _, b := range sample() {
			n := new(big.Int).Add(number(a), number(b))
			w, over := word.Add(a, b)
			if w != modulo(n) || over != (n.Cmp(modulus) >= 0) {
				t.Fatalf("Add(%x, %x) = %x, %v; want %x", a, b, w, over, n)
			}
		}
	}
}

func TestAddEdges(t *testing.T) {
	for _, c := range []struct {
		a, b, w word.Word
		over    bool
	}{
		{word.Word{}, word.Word{}, word.Word{}, false},
		{word.Word{Lo: math.MaxUint64}, word.Word{Lo: 1}, word.Word{Hi: 1}, false},
		{most, word.Word{}, most, false},
		{most, word.Word{Lo: 1}, word.Word{}, true},
		{word.Word{Lo: 1}, most, word.Word{}, true},
		{most, most, word.Word{Hi: math.MaxUint64, Lo: math.MaxUint64 - 1}, true},
		{word.Word{Hi: 1 << 63}, word.Word{Hi: 1 << 63}, word.Word{}, true},
		{word.Word{Hi: 1<<63 - 1, Lo: math.MaxUint64}, word.Word{Hi: 1 << 63}, most, false},
		{word.Word{Hi: math.MaxUint64}, word.Word{Lo: math.MaxUint64}, most, false},
	} {
		if w, over := word.Add(c.a, c.b); w != c.w || over != c.over {
			t.Errorf("Add(%x, %x) = %x, %v; want %x, %v", c.a, c.b, w, over, c.w, c.over)
		}
	}
}

func TestSub(t *testing.T) {
	for _, a := range sample() {
		for _, b := range sample() {
			n := new(big.Int).Sub(number(a), number(b))
			w, below := word.Sub(a, b)
			if w != modulo(n) || below != (n.Sign() < 0) {
				t.Fatalf("Sub(%x, %x) = %x, %v; want %x", a, b, w, below, n)
			}
		}
	}
}

func TestSubEdges(t *testing.T) {
	for _, c := range []struct {
		a, b, w word.Word
		below   bool
	}{
		{word.Word{}, word.Word{}, word.Word{}, false},
		{word.Word{}, word.Word{Lo: 1}, most, true},
		{word.Word{}, most, word.Word{Lo: 1}, true},
		{word.Word{Hi: 1}, word.Word{Lo: 1}, word.Word{Lo: math.MaxUint64}, false},
		{word.Word{Lo: 1}, word.Word{Hi: 1}, word.Word{Hi: math.MaxUint64, Lo: 1}, true},
		{most, most, word.Word{}, false},
		{most, word.Word{}, most, false},
	} {
		if w, below := word.Sub(c.a, c.b); w != c.w || below != c.below {
			t.Errorf("Sub(%x, %x) = %x, %v; want %x, %v", c.a, c.b, w, below, c.w, c.below)
		}
	}
}

func TestMul(t *testing.T) {
	for _, a := range sample() {
		for _, b := range sample() {
			n := new(big.Int).Mul(number(a), number(b))
			if w := word.Mul(a, b); w != modulo(n) {
				t.Fatalf("Mul(%x, %x) = %x; want %x, modulo", a, b, w, n)
			}
		}
	}
}

func TestMulEdges(t *testing.T) {
	for _, c := range []struct{ a, b, w word.Word }{
		{most, word.Word{}, word.Word{}},
		{most, word.Word{Lo: 1}, most},
		{most, most, word.Word{Lo: 1}},
		{word.Word{Hi: 1}, word.Word{Hi: 1}, word.Word{}},
		{word.Word{Hi: 1 << 63}, word.Word{Lo: 2}, word.Word{}},
		{word.Word{Lo: 1 << 63}, word.Word{Lo: 2}, word.Word{Hi: 1}},
		{word.Word{Lo: math.MaxUint64}, word.Word{Lo: math.MaxUint64}, word.Word{Hi: math.MaxUint64 - 1, Lo: 1}},
	} {
		if w := word.Mul(c.a, c.b); w != c.w {
			t.Errorf("Mul(%x, %x) = %x; want %x", c.a, c.b, w, c.w)
		}
	}
}

func TestDiv(t *testing.T) {
	divisors := []uint64{1, 2, 3, 5, 7, 10, 16, 1<<32 - 1, 1 << 32, 1<<32 + 1, 1<<63 - 1, 1 << 63, 1<<63 + 1, math.MaxUint64 - 1, math.MaxUint64}
	for _, a := range sample() {
		for _, d := range append([]uint64{a.Hi, a.Lo, a.Hi + 1, a.Lo + 1}, divisors...) {
			if d == 0 {
				continue
			}
			q, left := new(big.Int).QuoRem(number(a), new(big.Int).SetUint64(d), new(big.Int))
			w, r, ok := word.Div(a, d)
			if w != modulo(q) || r != left.Uint64() || !ok {
				t.Fatalf("Div(%x, %x) = %x, %x, %v; want %x, %x", a, d, w, r, ok, q, left)
			}
		}
	}
}

func TestDivByNought(t *testing.T) {
	for _, a := range sample() {
		if w, r, ok := word.Div(a, 0); w != (word.Word{}) || r != 0 || ok {
			t.Fatalf("Div(%x, 0) = %x, %x, %v; want noughts and false", a, w, r, ok)
		}
	}
}

// Promise 1.2.

func TestBitByBit(t *testing.T) {
	for _, a := range sample() {
		if w := word.Not(a); w != modulo(new(big.Int).Not(number(a))) {
			t.Fatalf("Not(%x) = %x", a, w)
		}
		for _, b := range sample() {
			x, y := number(a), number(b)
			if w := word.And(a, b); w != modulo(new(big.Int).And(x, y)) {
				t.Fatalf("And(%x, %x) = %x", a, b, w)
			}
			if w := word.Or(a, b); w != modulo(new(big.Int).Or(x, y)) {
				t.Fatalf("Or(%x, %x) = %x", a, b, w)
			}
			if w := word.Xor(a, b); w != modulo(new(big.Int).Xor(x, y)) {
				t.Fatalf("Xor(%x, %x) = %x", a, b, w)
			}
		}
	}
}

// moved is a times 2^n, modulo, or a by 2^-n.
func moved(a word.Word, n int) word.Word {
	switch {
	case n <= -128 || n >= 128:
		return word.Word{}
	case n < 0:
		return modulo(new(big.Int).Rsh(number(a), uint(-n)))
	}
	return modulo(new(big.Int).Lsh(number(a), uint(n)))
}

func TestMoves(t *testing.T) {
	for _, a := range sample() {
		for _, n := range moves() {
			// The least int has no int of the other sign, but is past the edge either way.
			back := max(n, -math.MaxInt)
			if w := word.Shl(a, n); w != moved(a, n) {
				t.Fatalf("Shl(%x, %d) = %x; want %x", a, n, w, moved(a, n))
			}
			if w := word.Shr(a, n); w != moved(a, -back) {
				t.Fatalf("Shr(%x, %d) = %x; want %x", a, n, w, moved(a, -back))
			}
		}
	}
}

func TestMoveEdges(t *testing.T) {
	low, high := word.Word{Lo: 1}, word.Word{Hi: 1 << 63}
	for _, c := range []struct {
		n         int
		shl, shr  word.Word // of most
		down, top word.Word // Shr of high, Shl of low
	}{
		{0, most, most, high, low},
		{1, word.Word{Hi: math.MaxUint64, Lo: math.MaxUint64 - 1}, word.Word{Hi: math.MaxInt64, Lo: math.MaxUint64}, word.Word{Hi: 1 << 62}, word.Word{Lo: 2}},
		{63, word.Word{Hi: math.MaxUint64, Lo: 1 << 63}, word.Word{Hi: 1, Lo: math.MaxUint64}, word.Word{Hi: 1}, word.Word{Lo: 1 << 63}},
		{64, word.Word{Hi: math.MaxUint64}, word.Word{Lo: math.MaxUint64}, word.Word{Lo: 1 << 63}, word.Word{Hi: 1}},
		{127, high, low, low, high},
		{128, word.Word{}, word.Word{}, word.Word{}, word.Word{}},
		{129, word.Word{}, word.Word{}, word.Word{}, word.Word{}},
		{192, word.Word{}, word.Word{}, word.Word{}, word.Word{}},
		{256, word.Word{}, word.Word{}, word.Word{}, word.Word{}},
		{math.MaxInt, word.Word{}, word.Word{}, word.Word{}, word.Word{}},
	} {
		for _, x := range []struct {
			name      string
			got, want word.Word
		}{
			{"Shl of most", word.Shl(most, c.n), c.shl}, {"Shr of most, back", word.Shr(most, -c.n), c.shl},
			{"Shr of most", word.Shr(most, c.n), c.shr}, {"Shl of most, back", word.Shl(most, -c.n), c.shr},
			{"Shr of high", word.Shr(high, c.n), c.down}, {"Shl of high, back", word.Shl(high, -c.n), c.down},
			{"Shl of low", word.Shl(low, c.n), c.top}, {"Shr of low, back", word.Shr(low, -c.n), c.top},
		} {
			if x.got != x.want {
				t.Errorf("%s by %d: %x; want %x", x.name, c.n, x.got, x.want)
			}
		}
	}
	if a, b := word.Shl(most, math.MinInt), word.Shr(most, math.MinInt); a != (word.Word{}) || b != (word.Word{}) {
		t.Errorf("moves by the least int: %x, %x; want noughts", a, b)
	}
}

func TestOnes(t *testing.T) {
	for _, n := range moves() {
		k := uint(min(max(n, 0), 128))
		want := modulo(new(big.Int).Sub(new(big.Int).Lsh(one, k), one))
		if w := word.Ones(n); w != want {
			t.Errorf("Ones(%d) = %x; want %x", n, w, want)
		}
	}
}

func TestLen(t *testing.T) {
	for _, a := range sample() {
		if n := word.Len(a); n != number(a).BitLen() {
			t.Errorf("Len(%x) = %d; want %d", a, n, number(a).BitLen())
		}
	}
	for n := 0; n <= 128; n++ {
		ones := modulo(new(big.Int).Sub(new(big.Int).Lsh(one, uint(n)), one))
		if got := word.Len(ones); got != n {
			t.Errorf("Len(2^%d - 1) = %d", n, got)
		}
		if got := word.Len(modulo(new(big.Int).Lsh(one, uint(n)))); n < 128 && got != n+1 {
			t.Errorf("Len(2^%d) = %d", n, got)
		}
	}
}

func TestCmp(t *testing.T) {
	for _, a := range sample() {
		for _, b := range sample() {
			if c := word.Cmp(a, b); c != number(a).Cmp(number(b)) {
				t.Fatalf("Cmp(%x, %x) = %d", a, b, c)
			}
		}
	}
	for _, c := range []struct {
		a, b word.Word
		want int
	}{
		{word.Word{}, word.Word{}, 0}, {most, most, 0}, {word.Word{}, most, -1}, {most, word.Word{}, 1},
		{word.Word{Hi: 1}, word.Word{Lo: math.MaxUint64}, 1}, {word.Word{Lo: math.MaxUint64}, word.Word{Hi: 1}, -1},
		{word.Word{Hi: 1 << 63}, word.Word{Hi: 1<<63 - 1}, 1}, {word.Word{Hi: 5, Lo: 1 << 63}, word.Word{Hi: 5, Lo: 1}, 1},
		{word.Word{Hi: 1, Lo: 2}, word.Word{Hi: 2, Lo: 1}, -1},
	} {
		if got := word.Cmp(c.a, c.b); got != c.want {
			t.Errorf("Cmp(%x, %x) = %d; want %d", c.a, c.b, got, c.want)
		}
	}
}

func TestBit(t *testing.T) {
	for _, a := range sample() {
		for _, i := range moves() {
			want := i >= 0 && i <= 127 && number(a).Bit(max(i, 0)) == 1
			if got := word.Bit(a, i); got != want {
				t.Fatalf("Bit(%x, %d) = %v", a, i, got)
			}
		}
	}
	for _, i := range []int{math.MinInt, -128, -64, -1, 128, 129, 192, 256, math.MaxInt} {
		if word.Bit(most, i) {
			t.Errorf("Bit(2^128 - 1, %d) holds", i)
		}
	}
	for _, i := range []int{0, 1, 63, 64, 126, 127} {
		if !word.Bit(most, i) || word.Bit(word.Word{}, i) {
			t.Errorf("Bit(2^128 - 1, %d), Bit(0, %d): want true, false", i, i)
		}
	}
}

// Promise 1.4.

func TestSubIsBackBehindAdd(t *testing.T) {
	for _, a := range sample() {
		for _, b := range sample() {
			w, over := word.Add(a, b)
			back, below := word.Sub(w, b)
			if back != a || below != over {
				t.Fatalf("Add(%x, %x), and Sub behind: %x, %v; want %x, %v", a, b, back, below, a, over)
			}
		}
	}
}
