package word_test

import (
	"math"
	"math/big"
	"strings"
	"testing"

	"shunter/api"
	"shunter/word"
)

func wrongBases() []int {
	return []int{math.MinInt, -16, -10, -2, -1, 0, 1, 17, 18, 32, 36, 62, 256, math.MaxInt32, math.MaxInt}
}

// Promise 1.3.

func TestText(t *testing.T) {
	for base := 2; base <= 16; base++ {
		for _, a := range sample() {
			if s := word.Text(a, base); s != number(a).Text(base) {
				t.Fatalf("Text(%x, %d) = %q; want %q", a, base, s, number(a).Text(base))
			}
		}
	}
}

func TestTextEdges(t *testing.T) {
	for _, c := range []struct {
		a    word.Word
		base int
		s    string
	}{
		{word.Word{}, 2, "0"}, {word.Word{}, 10, "0"}, {word.Word{}, 16, "0"},
		{word.Word{Lo: 15}, 16, "f"}, {word.Word{Lo: 16}, 16, "10"}, {word.Word{Lo: 10}, 11, "a"},
		{word.Word{Hi: 1}, 16, "1" + strings.Repeat("0", 16)},
		{word.Word{Hi: 1}, 10, "18446744073709551616"},
		{most, 2, strings.Repeat("1", 128)},
		{most, 10, "340282366920938463463374607431768211455"},
		{most, 16, strings.Repeat("f", 32)},
		{word.Word{Hi: 0x0123456789abcdef, Lo: 0x0fedcba987654321}, 16, "123456789abcdef0fedcba987654321"},
	} {
		if s := word.Text(c.a, c.base); s != c.s {
			t.Errorf("Text(%x, %d) = %q; want %q", c.a, c.base, s, c.s)
		}
	}
}

func TestTextOfWrongBases(t *testing.T) {
	for _, base := range wrongBases() {
		for _, a := range []word.Word{{}, {Lo: 1}, most} {
			if s := word.Text(a, base); s != "" {
				t.Errorf("Text(%x, %d) = %q; want none", a, base, s)
			}
		}
	}
}

func parses(t *testing.T, s string, base int, want word.Word) {
	t.Helper()
	if w, e := word.Parse(s, base); w != want || e != api.OK {
		t.Errorf("Parse(%.200q, %d) = %x, %d; want %x", s, base, w, e, want)
	}
}

func refuses(t *testing.T, s string, base int, want api.Errno) {
	t.Helper()
	if w, e := word.Parse(s, base); w != (word.Word{}) || e != want {
		t.Errorf("Parse(%.200q, %d) = %x, %d; want 0, %d", s, base, w, e, want)
	}
}

func TestParse(t *testing.T) {
	for base := 2; base <= 16; base++ {
		for _, a := range sample() {
			s := number(a).Text(base)
			parses(t, s, base, a)
			parses(t, strings.ToUpper(s), base, a)
			parses(t, "000"+s, base, a)
		}
	}
	parses(t, "fF", 16, word.Word{Lo: 255})
	parses(t, "AbCdEf", 16, word.Word{Lo: 0xabcdef})
	parses(t, "aA", 11, word.Word{Lo: 120})
}

func TestParseOfWrongBases(t *testing.T) {
	for _, base := range wrongBases() {
		for _, s := range []string{"", "0", "1", "z", "-1", strings.Repeat("f", 40)} {
			refuses(t, s, base, api.ErrArg)
		}
	}
}

func TestParseOfTheEmptyText(t *testing.T) {
	for base := 2; base <= 16; base++ {
		refuses(t, "", base, api.ErrEnd)
	}
}

// Each byte there is, alone, ahead of a digit and behind one.
func TestParseOfBytes(t *testing.T) {
	const small, great = "0123456789abcdef", "0123456789ABCDEF"
	for base := 2; base <= 16; base++ {
		for c := range 256 {
			b := string([]byte{byte(c)})
			d := max(strings.Index(small[:base], b), strings.Index(great[:base], b))
			if d < 0 {
				for _, s := range []string{b, b + "1", "1" + b, "1" + b + "1", b + b} {
					refuses(t, s, base, api.ErrForm)
				}
				continue
			}
			parses(t, b, base, word.Word{Lo: uint64(d)})
			parses(t, b+"1", base, word.Word{Lo: uint64(d*base + 1)})
			parses(t, "1"+b, base, word.Word{Lo: uint64(base + d)})
		}
	}
}

func TestParseOfOtherForms(t *testing.T) {
	for _, s := range []string{"-1", "+1", " 1", "1 ", "1_0", "0x1", "0b1g", "1.0", "1\x00", "\n1", "é", "１", "٣", "g", "G", "@", "`", "/", ":"} {
		refuses(t, s, 16, api.ErrForm)
	}
	refuses(t, "2", 2, api.ErrForm)
	refuses(t, "a", 10, api.ErrForm)
	refuses(t, "F", 15, api.ErrForm)
}

// A byte that is no digit is told first, wherever it stands.
func TestParseTellsTheFormBeforeTheRange(t *testing.T) {
	for base := 2; base <= 16; base++ {
		long := strings.Repeat("1", 200)
		refuses(t, long, base, api.ErrRange)
		refuses(t, long+"g", base, api.ErrForm)
		refuses(t, "g"+long, base, api.ErrForm)
		refuses(t, long+"g"+long, base, api.ErrForm)
		refuses(t, modulus.Text(base)+"!", base, api.ErrForm)
	}
}

func TestParseAtTheGreatestWord(t *testing.T) {
	for base := 2; base <= 16; base++ {
		greatest := new(big.Int).Sub(modulus, one)
		parses(t, greatest.Text(base), base, most)
		parses(t, strings.Repeat("0", 1000)+greatest.Text(base), base, most)
		refuses(t, strings.Repeat("0", 1000)+modulus.Text(base), base, api.ErrRange)
		for k := range int64(40) {
			// One above the greatest, and those behind it, a base's digits and more.
			refuses(t, new(big.Int).Add(modulus, big.NewInt(k)).Text(base), base, api.ErrRange)
			under := new(big.Int).Sub(greatest, big.NewInt(k))
			parses(t, under.Text(base), base, modulo(under))
		}
	}
}

// Far above the greatest word: numbers that are small again, modulo, must not be taken for such.
func TestParseFarAboveTheGreatestWord(t *testing.T) {
	for base := 2; base <= 16; base++ {
		for k := int64(1); k < 300; k++ {
			n := new(big.Int).Mul(modulus, big.NewInt(k))
			refuses(t, n.Text(base), base, api.ErrRange)
			refuses(t, n.Text(base)+"0", base, api.ErrRange)
			refuses(t, n.Add(n, big.NewInt(7)).Text(base), base, api.ErrRange)
		}
		for n := range uint(300) {
			above := new(big.Int).Lsh(modulus, n)
			refuses(t, above.Text(base), base, api.ErrRange)
			refuses(t, above.Add(above, one).Text(base), base, api.ErrRange)
		}
	}
	refuses(t, "1"+strings.Repeat("0", 32), 16, api.ErrRange)
	refuses(t, "1"+strings.Repeat("0", 100000), 16, api.ErrRange)
	refuses(t, "1"+strings.Repeat("0", 100000)+"1", 10, api.ErrRange)
}

func TestParseNoughts(t *testing.T) {
	for base := 2; base <= 16; base++ {
		for _, n := range []int{1, 2, 128, 129, 100000} {
			parses(t, strings.Repeat("0", n), base, word.Word{})
			parses(t, strings.Repeat("0", n)+"1", base, word.Word{Lo: 1})
		}
	}
}

// Promise 1.4.

func TestAWordIsParsedOfItsText(t *testing.T) {
	for base := 2; base <= 16; base++ {
		for _, a := range sample() {
			s := word.Text(a, base)
			parses(t, s, base, a)
			parses(t, "0"+strings.ToUpper(s), base, a)
		}
	}
}
