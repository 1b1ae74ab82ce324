package lex_test

import (
	"math"
	"slices"
	"strconv"
	"strings"
	"testing"
	"unsafe"

	"shunter/api"
	"shunter/lex"
)

// tokens are of all kinds, and of none, with all their parts filled, so that a test sees which of them is asked.
func tokens() []lex.Token {
	var l []lex.Token
	rows := []api.Vec{{}, {W: 8, Lo: 0x40}, {W: 1, Lo: 1}, {W: 65, Hi: 1}, {W: 128, Hi: math.MaxUint64, Lo: math.MaxUint64}, {W: 8, Lo: 256}, {W: -1}, {W: 129}, {W: math.MaxInt}, {W: math.MinInt}}
	for _, kind := range []lex.Kind{lex.Mark, lex.Word, lex.Number, lex.Row, 4, 5, -1, math.MaxInt, math.MinInt} {
		for _, s := range []string{"", "{", "set", "a b", "é\xff", "8'1"} {
			for _, n := range []int{0, 1, -1, 17, math.MaxInt, math.MinInt} {
				for _, v := range rows {
					l = append(l, lex.Token{Kind: kind, S: s, N: n, V: v, At: n})
				}
			}
		}
	}
	return l
}

func textModel(x lex.Token) string {
	switch {
	case x.Kind == lex.Mark, x.Kind == lex.Word:
		return x.S
	case x.Kind == lex.Number && x.N >= 0:
		return strconv.FormatInt(int64(x.N), 10)
	case x.Kind == lex.Row:
		return rowText(x.V)
	}
	return ""
}

func rowText(v api.Vec) string {
	for _, c := range []struct {
		v api.Vec
		s string
	}{
		{api.Vec{W: 8, Lo: 0x40}, "8'40"}, {api.Vec{W: 1, Lo: 1}, "1'1"}, {api.Vec{W: 65, Hi: 1}, "65'1" + strings.Repeat("0", 16)}, {api.Vec{W: 128, Hi: math.MaxUint64, Lo: math.MaxUint64}, "128'" + strings.Repeat("f", 32)},
	} {
		if c.v == v {
			return c.s
		}
	}
	return ""
}

// Promise 6.3.

func TestText(t *testing.T) {
	for _, x := range tokens() {
		if s := lex.Text(x); s != textModel(x) {
			t.Fatalf("Text(%v) = %q; want %q", x, s, textModel(x))
		}
	}
}

func TestTextEdges(t *testing.T) {
	for _, c := range []struct {
		x    lex.Token
		want string
	}{
		{mark(";"), ";"}, {word("ip.ttl"), "ip.ttl"}, {word(""), ""}, {mark("no mark"), "no mark"}, {number(0), "0"}, {number(255), "255"}, {number(math.MaxInt), "9223372036854775807"}, {number(-1), ""}, {number(math.MinInt), ""},
		{row(8, 0, 0x40), "8'40"}, {row(8, 0, 0xff), "8'ff"}, {row(1, 0, 0), "1'0"}, {row(0, 0, 0), ""}, {row(8, 0, 256), ""}, {row(129, 0, 0), ""}, {lex.Token{}, ""}, {lex.Token{Kind: 4, S: "a", N: 1}, ""}, {lex.Token{Kind: -1, S: "a", N: 1}, ""},
	} {
		if s := lex.Text(c.x); s != c.want {
			t.Errorf("Text(%v) = %q; want %q", c.x, s, c.want)
		}
	}
}

func TestJoin(t *testing.T) {
	l := tokens()
	for _, n := range []int{0, 1, 2, 3, 17, len(l)} {
		var texts []string
		for _, x := range l[:n] {
			texts = append(texts, textModel(x))
		}
		if s := lex.Join(l[:n]); s != strings.Join(texts, " ") {
			t.Errorf("Join of %d = %q", n, s)
		}
	}
	if !slices.Equal(l, tokens()) {
		t.Error("Join changed what it was handed")
	}
}

func TestJoinEdges(t *testing.T) {
	for _, c := range []struct {
		l    []lex.Token
		want string
	}{
		{nil, ""}, {[]lex.Token{}, ""}, {[]lex.Token{word("a")}, "a"}, {[]lex.Token{number(-1)}, ""}, {[]lex.Token{number(-1), number(-2)}, " "}, {[]lex.Token{word("a"), {Kind: 9}, word("b")}, "a  b"}, {[]lex.Token{row(0, 0, 0), word("b")}, " b"},
		{[]lex.Token{word("set"), word("ip.ttl"), mark("="), row(8, 0, 0x40), mark(";")}, "set ip.ttl = 8'40 ;"}, {[]lex.Token{number(16), number(7)}, "16 7"},
	} {
		if s := lex.Join(c.l); s != c.want {
			t.Errorf("Join(%v) = %q; want %q", c.l, s, c.want)
		}
	}
}

func TestTextsAreNewMemory(t *testing.T) {
	for _, x := range []lex.Token{word("another"), mark("no mark")} {
		for _, s := range []string{lex.Text(x), lex.Join([]lex.Token{x})} {
			if unsafe.StringData(s) == unsafe.StringData(x.S) {
				t.Errorf("%q lies in the token", s)
			}
		}
	}
}

// Promise 6.4.

func TestJoinedTokensAreScannedAgain(t *testing.T) {
	for _, s := range all() {
		want, err := lex.Scan(s)
		if err != nil {
			continue
		}
		joined := lex.Join(want)
		l, err := lex.Scan(joined)
		if err != nil || !slices.Equal(unplaced(l), unplaced(want)) {
			t.Fatalf("Scan(%q) = %v, %v; want %v", joined, l, err, want)
		}
		if again := lex.Join(l); again != joined {
			t.Fatalf("Join of %q = %q", joined, again)
		}
	}
}
