package lex_test

import (
	"math/big"
	"regexp"
	"slices"
	"strconv"
	"strings"
	"testing"
	"unicode/utf8"

	"shunter/api"
	"shunter/ground"
	"shunter/lex"
)

// The model takes texts apart by regular expressions, and counts with numbers of any size.

const (
	letter    = `A-Za-z_\x{c0}-\x{d6}\x{d8}-\x{f6}\x{f8}-\x{24f}\x{391}-\x{3a1}\x{3a3}-\x{3c9}\x{400}-\x{4ff}`
	markRunes = "{}()[];:,=/&"
)

var (
	piece   = regexp.MustCompile(`^(?:([ \t\n\r]|#[^\n]*)|([{}()\[\];:,=/&])|([` + letter + `][` + letter + `0-9.-]*)|([0-9][` + letter + `0-9']*))`)
	decimal = regexp.MustCompile(`^[0-9]+$`)
	base16  = regexp.MustCompile(`^0x([0-9a-fA-F]+)$`)
	rowForm = regexp.MustCompile(`^([0-9]{1,3})'([0-9a-fA-F]+)$`)
)

// scanned are the tokens of a text, or none, what is wrong, and where.
func scanned(s string) ([]lex.Token, api.Errno, int) {
	if len(s) > 16384 {
		return nil, api.ErrLong, 0
	}
	var l []lex.Token
	for at := 0; at < len(s); {
		m := piece.FindStringSubmatch(s[at:])
		if m == nil {
			return nil, api.ErrForm, at
		}
		t, e := lex.Token{}, api.OK
		switch {
		case m[2] != "":
			t = mark(m[2])
		case m[3] != "":
			t, e = wordModel(m[3])
		case m[4] != "":
			t, e = numberModel(m[4])
		}
		if e != api.OK {
			return nil, e, at
		}
		if m[1] == "" {
			t.At = at
			l = append(l, t)
		}
		at += len(m[0])
	}
	return l, api.OK, 0
}

func wordModel(s string) (lex.Token, api.Errno) {
	if utf8.RuneCountInString(s) > 24 {
		return lex.Token{}, api.ErrLong
	}
	return word(s), api.OK
}

func numberModel(s string) (lex.Token, api.Errno) {
	if m := rowForm.FindStringSubmatch(s); m != nil {
		return rowModel(m[1], m[2])
	}
	var n *big.Int
	if m := base16.FindStringSubmatch(s); m != nil {
		n, _ = new(big.Int).SetString(m[1], 16)
	} else if decimal.MatchString(s) {
		n, _ = new(big.Int).SetString(s, 10)
	} else {
		return lex.Token{}, api.ErrForm
	}
	if !n.IsInt64() {
		return lex.Token{}, api.ErrRange
	}
	return number(int(n.Int64())), api.OK
}

func rowModel(ahead, behind string) (lex.Token, api.Errno) {
	w, _ := strconv.Atoi(ahead)
	if w < 1 || w > 128 {
		return lex.Token{}, api.ErrWidth
	}
	n, _ := new(big.Int).SetString(behind, 16)
	if n.BitLen() > w {
		return lex.Token{}, api.ErrRange
	}
	hi := new(big.Int).Rsh(n, 64)
	return row(w, hi.Uint64(), n.Sub(n, new(big.Int).Lsh(hi, 64)).Uint64()), api.OK
}

func mark(s string) lex.Token {
	return lex.Token{Kind: lex.Mark, S: s}
}

func word(s string) lex.Token {
	return lex.Token{Kind: lex.Word, S: s}
}

func number(n int) lex.Token {
	return lex.Token{Kind: lex.Number, N: n}
}

func row(w int, hi, lo uint64) lex.Token {
	return lex.Token{Kind: lex.Row, V: api.Vec{W: w, Hi: hi, Lo: lo}}
}

// at is a token at a place.
func at(place int, t lex.Token) lex.Token {
	t.At = place
	return t
}

// unplaced are the tokens without their places.
func unplaced(l []lex.Token) []lex.Token {
	l = slices.Clone(l)
	for i := range l {
		l[i].At = 0
	}
	return l
}

// gives asks that a text has these tokens, and no fault.
func gives(t *testing.T, s string, want ...lex.Token) {
	t.Helper()
	l, err := lex.Scan(s)
	if err != nil {
		t.Fatalf("Scan(%.200q) = %v; want %v", s, err, want)
	}
	if !slices.Equal(l, want) {
		t.Fatalf("Scan(%.200q) = %v; want %v", s, l, want)
	}
}

// refuses asks that a text has this fault, by a *lex.Fault, and no tokens.
func refuses(t *testing.T, s string, e api.Errno, place int) {
	t.Helper()
	l, err := lex.Scan(s)
	f, ok := err.(*lex.Fault)
	if !ok || f == nil {
		t.Fatalf("Scan(%.200q) = %v, %v; want a fault %d at %d", s, l, err, e, place)
	}
	if *f != (lex.Fault{E: e, At: place}) || len(l) != 0 {
		t.Fatalf("Scan(%.200q) = %v, %v; want none, a fault %d at %d", s, l, err, e, place)
	}
}

// asModel holds Scan against the model.
func asModel(t *testing.T, s string) {
	t.Helper()
	want, e, place := scanned(s)
	if e != api.OK {
		refuses(t, s, e, place)
		return
	}
	gives(t, s, want...)
}

// right are texts of one token each.
func right() []string {
	return []string{
		"{", "}", "(", ")", "[", "]", ";", ":", ",", "=", "/", "&",
		"a", "Z", "_", "set", "ip.ttl", "put-field", "a-", "a.", "a--..9", "x0x1", "_9", "Straße", "ÉTÉ", "λογος", "Ёлка", "Àɏ", strings.Repeat("a", 24), strings.Repeat("ё", 24), "a" + strings.Repeat("-", 23),
		"0", "1", "9", "10", "007", "65535", "9223372036854775807", "0x0", "0x1", "0xff", "0xFF", "0xaBcD", "0x007", "0x7fffffffffffffff", strings.Repeat("0", 300) + "1", "0x" + strings.Repeat("0", 300) + "1",
		"8'40", "1'0", "1'1", "8'ff", "8'FF", "008'0A", "65'10000000000000000", "128'" + strings.Repeat("f", 32), "128'0", "1'" + strings.Repeat("0", 300),
	}
}

// wrong are texts that are wrong where they begin.
func wrong() []string {
	return []string{
		"%", "'", "\"", "-", ".", "+", "*", "<", ">", "!", "?", "@", "$", "\\", "^", "`", "|", "~", "\x00", "\v", "\f", "\x7f", "\u0085", "\u00a0", "\u2028", "\ufeff", "×", "÷", "\u03a2", "€", "😀", "日", "٣", "１", "\ufffd", "\x80", "\xff", "\xc3", "\xe2\x82", "-a", ".a", "'a", "-1", "+1", ".5", "'0", "$a",
		strings.Repeat("a", 25), strings.Repeat("é", 25), "a" + strings.Repeat(".", 24), strings.Repeat("a", 300),
		"1a", "1_", "1_0", "0X1", "0x", "0xg", "0x1g", "00x1", "0x0x1", "x'", "1x", "12é", "1é2", "1Ω", "1Ж", "0xé", "1e9", "0b1", "0o7", "1L",
		"9223372036854775808", "0x8000000000000000", "18446744073709551616", "0x10000000000000000", strings.Repeat("9", 300), "0x" + strings.Repeat("f", 300), "9223372036854775808a",
		"8'", "8''1", "8'1'", "8'1'1", "8'g", "8'1g", "8'é", "é'1", "8'0x1", "0x8'1", "a8'1", "8a'1", "0008'1", "1000'1", "0'", "0'1", "000'0", "129'0", "999'1", "129'g", "1'2", "8'100", "128'1" + strings.Repeat("0", 32), "8'" + strings.Repeat("f", 300), "0'" + strings.Repeat("f", 300),
	}
}

func gaps() []string {
	return []string{" ", "\t", "\n", "\r", "\r\n", "  ", " \t\r\n", "#\n", "# a remark\n", "#a\xff€'%\"\n", "###\n", "#a\r\n", "#a\rb\n", " # x\n# y\n ", "#{8'1}\n"}
}

// mixed are so many texts of so many pieces at most; of some a piece is wrong.
func mixed(count, most int) []string {
	x := uint64(most)
	pick := func(l []string) string { return l[ground.Number(&x)%uint64(len(l))] }
	var texts []string
	for range count {
		var b strings.Builder
		for range ground.Number(&x) % uint64(most+1) {
			switch n := ground.Number(&x) % 200; {
			case n < 90:
				b.WriteString(pick(right()))
			case n < 190:
				b.WriteString(pick(gaps()))
			case n < 199:
				b.WriteString(pick([]string{"a", "9", "-", ".", "'", "#", "é", ";"}))
			default:
				b.WriteString(pick(wrong()))
			}
		}
		texts = append(texts, b.String())
	}
	return texts
}

// all are all of these texts, and mixed bytes.
func all() []string {
	l := slices.Concat([]string{"", "#", "#a", "# \xff"}, right(), wrong(), gaps(), mixed(3000, 4), mixed(1000, 30))
	for n := range 300 {
		l = append(l, string(ground.Bytes(n)))
	}
	return l
}
