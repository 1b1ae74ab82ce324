package lex_test

import (
	"math"
	"slices"
	"strconv"
	"strings"
	"testing"
	"unicode"
	"unsafe"

	"shunter/api"
	"shunter/lex"
)

// Promise 6.1.

func TestScan(t *testing.T) {
	for _, s := range all() {
		asModel(t, s)
	}
}

func TestScanOrdinaryTexts(t *testing.T) {
	gives(t, "set ip.ttl = 8'40;", at(0, word("set")), at(4, word("ip.ttl")), at(11, mark("=")), at(13, row(8, 0, 0x40)), at(17, mark(";")))
	gives(t, "a{b}(c)[d];e:f,g=h/i&j",
		at(0, word("a")), at(1, mark("{")), at(2, word("b")), at(3, mark("}")), at(4, mark("(")), at(5, word("c")), at(6, mark(")")), at(7, mark("[")), at(8, word("d")), at(9, mark("]")),
		at(10, mark(";")), at(11, word("e")), at(12, mark(":")), at(13, word("f")), at(14, mark(",")), at(15, word("g")), at(16, mark("=")), at(17, word("h")), at(18, mark("/")), at(19, word("i")), at(20, mark("&")), at(21, word("j")))
	gives(t, "inst ip = ipv4/3;", at(0, word("inst")), at(5, word("ip")), at(8, mark("=")), at(10, word("ipv4")), at(14, mark("/")), at(15, number(3)), at(16, mark(";")))
	gives(t, "case 16'800&16'ffff to ip;# the internet\naction=2,0x10", at(0, word("case")), at(5, row(16, 0, 0x800)), at(11, mark("&")), at(12, row(16, 0, 0xffff)), at(20, word("to")), at(23, word("ip")), at(25, mark(";")),
		at(41, word("action")), at(47, mark("=")), at(48, number(2)), at(49, mark(",")), at(50, number(16)))
}

func TestKindsInTheirOrder(t *testing.T) {
	if l := []lex.Kind{lex.Mark, lex.Word, lex.Number, lex.Row}; !slices.Equal(l, []lex.Kind{0, 1, 2, 3}) {
		t.Errorf("kinds: %v", l)
	}
}

func TestScanOfTextsWithoutTokens(t *testing.T) {
	gives(t, "")
	for _, s := range gaps() {
		gives(t, s)
	}
	gives(t, "#")
	gives(t, "# a remark up to the text's end")
	gives(t, strings.Repeat(" ", 16384))
	gives(t, "#"+strings.Repeat("\xff", 16383))
}

// Each rune there is behind a token; each one up to beyond the last letter alone, ahead of a token, within one, and in a remark, too.
func TestScanOfRunes(t *testing.T) {
	for c := range rune(unicode.MaxRune + 1) {
		s := string(c)
		asModel(t, "b"+s)
		if c > 0x600 {
			continue
		}
		for _, s := range []string{s, s + "b", "b" + s + "b", "9" + s, "9" + s + "9", s + "9", "8'1" + s, ";" + s + ";", "#" + s + "a\nb"} {
			asModel(t, s)
		}
	}
}

// Each byte there is, alone and among others, whole runes or not.
func TestScanOfBytes(t *testing.T) {
	for a := range 256 {
		for _, s := range []string{"", "a", "9", "é", "\xc3", "\xa9", "#", "8'", ";"} {
			b := string([]byte{byte(a)})
			asModel(t, s+b)
			asModel(t, b+s)
			asModel(t, s+b+s)
		}
	}
}

func TestScanMarks(t *testing.T) {
	for i, c := range markRunes {
		gives(t, string(c), mark(string(c)))
		gives(t, "a"+string(c)+"1", word("a"), at(1, mark(string(c))), at(2, number(1)))
		gives(t, markRunes[i:i+1]+markRunes[i:i+1], mark(string(c)), at(1, mark(string(c))))
	}
	for c := range rune(128) {
		l, err := lex.Scan(string(c))
		if isMark := err == nil && len(l) == 1 && l[0].Kind == lex.Mark; isMark != strings.ContainsRune(markRunes, c) {
			t.Errorf("Scan(%q) = %v, %v", c, l, err)
		}
	}
}

func TestScanWords(t *testing.T) {
	for _, s := range []string{"a", "_", "Z9", "ip.ttl", "put-field", "a-", "a.", "a..--", "x0x8", "Straße", "ÉTÉ", "Λογοσ", "ёлка", "ÀɏΑωЀӿ", strings.Repeat("a", 24), strings.Repeat("Ж", 24), "a" + strings.Repeat("9", 23), "a" + strings.Repeat(".", 23)} {
		gives(t, s, word(s))
		gives(t, " "+s+" "+s+";", at(1, word(s)), at(2+len(s), word(s)), at(2+2*len(s), mark(";")))
	}
	for _, s := range []string{strings.Repeat("a", 25), strings.Repeat("Ж", 25), "a" + strings.Repeat("9", 24), "a" + strings.Repeat("-", 24), strings.Repeat("a", 16384)} {
		refuses(t, s, api.ErrLong, 0)
		refuses(t, ("é " + s)[:min(len(s)+3, 16384)], api.ErrLong, 3)
	}
	// What may not stand in a word ends it, or is no token.
	gives(t, "a;b", word("a"), at(1, mark(";")), at(2, word("b")))
	gives(t, "a#b", word("a"))
	gives(t, strings.Repeat("a", 24)+"=", word(strings.Repeat("a", 24)), at(24, mark("=")))
	refuses(t, "a'1", api.ErrForm, 1)
	refuses(t, "a8'1", api.ErrForm, 2)
	refuses(t, "a+b", api.ErrForm, 1)
	refuses(t, "a×b", api.ErrForm, 1)
	refuses(t, "-a", api.ErrForm, 0)
	refuses(t, ".a", api.ErrForm, 0)
	refuses(t, "e\u0301", api.ErrForm, 1)
}

func TestScanNumbers(t *testing.T) {
	for s, n := range map[string]int{
		"0": 0, "7": 7, "10": 10, "007": 7, "00": 0, "16384": 16384, "9223372036854775806": math.MaxInt - 1, "9223372036854775807": math.MaxInt, "0009223372036854775807": math.MaxInt,
		"0x0": 0, "0x10": 16, "0xff": 255, "0xFF": 255, "0xaBcDeF": 0xabcdef, "0x7fffffffffffffff": math.MaxInt, "0x7FFFFFFFFFFFFFFF": math.MaxInt, "0x0007fffffffffffffff": math.MaxInt, "0x00": 0,
		strings.Repeat("0", 16384): 0, strings.Repeat("0", 16383) + "9": 9, "0x" + strings.Repeat("0", 16381) + "a": 10,
	} {
		gives(t, s, number(n))
		if len(s) < 16000 {
			gives(t, "a="+s+";", word("a"), at(1, mark("=")), at(2, number(n)), at(2+len(s), mark(";")))
		}
	}
	for _, s := range []string{"1a", "1_000", "1e9", "12é", "0x", "0X1", "0xg", "0x1g", "00x1", "1x1", "0x0x0", "0b1", "0xfΩ", "9223372036854775808z", "0x" + strings.Repeat("f", 40) + "g", strings.Repeat("9", 300) + "a"} {
		refuses(t, s, api.ErrForm, 0)
		refuses(t, "é, "+s+";%", api.ErrForm, 4)
	}
	for _, s := range []string{
		"9223372036854775808", "9223372036854775809", "18446744073709551615", "18446744073709551616", "18446744073709551617", "340282366920938463463374607431768211455", "340282366920938463463374607431768211456", "340282366920938463463374607431768211457", strings.Repeat("9", 16300), "1" + strings.Repeat("0", 300), "0009223372036854775808",
		"0x8000000000000000", "0xffffffffffffffff", "0x10000000000000000", "0x10000000000000001", "0x" + strings.Repeat("f", 32), "0x1" + strings.Repeat("0", 32), "0x" + strings.Repeat("F", 16300), "0x0008000000000000000",
	} {
		refuses(t, s, api.ErrRange, 0)
		refuses(t, "é, "+s+";%", api.ErrRange, 4)
	}
	// What is no digit, letter or ' ends a number.
	refuses(t, "1.5", api.ErrForm, 1)
	refuses(t, "1-2", api.ErrForm, 1)
	refuses(t, "-1", api.ErrForm, 0)
	refuses(t, "+1", api.ErrForm, 0)
	refuses(t, "12×", api.ErrForm, 2)
	gives(t, "1/2", number(1), at(1, mark("/")), at(2, number(2)))
	gives(t, "1#2", number(1))
}

func TestScanRows(t *testing.T) {
	for s, v := range map[string]lex.Token{
		"8'40": row(8, 0, 0x40), "1'0": row(1, 0, 0), "1'1": row(1, 0, 1), "8'fF": row(8, 0, 255), "008'0A": row(8, 0, 10), "12'abc": row(12, 0, 0xabc), "64'ffffffffffffffff": row(64, 0, math.MaxUint64), "65'10000000000000000": row(65, 1, 0),
		"128'" + strings.Repeat("f", 32): row(128, math.MaxUint64, math.MaxUint64), "128'" + strings.Repeat("0", 16000) + "1": row(128, 0, 1),
	} {
		gives(t, s, v)
		gives(t, "("+s+",", mark("("), at(1, v), at(1+len(s), mark(",")))
	}
	for e, l := range map[api.Errno][]string{
		api.ErrForm:  {"8'", "8''1", "8'1'", "8'1'1", "8'g", "8'1g", "8'1_0", "8'é", "8'0x1", "0x8'1", "8a'1", "8é'1", "0008'1", "1000'0", "0'", "0'g", "129'g", "129'", "1''", "9'" + strings.Repeat("f", 300) + "g"},
		api.ErrWidth: {"0'0", "0'1", "000'1", "129'0", "129'1", "256'0", "999'1", "0'" + strings.Repeat("f", 300)},
		api.ErrRange: {"1'2", "8'100", "64'10000000000000000", "127'" + strings.Repeat("f", 32), "128'1" + strings.Repeat("0", 32), "128'" + strings.Repeat("f", 300)},
	} {
		for _, s := range l {
			refuses(t, s, e, 0)
			refuses(t, "é, "+s+";%", e, 4)
		}
	}
	refuses(t, "'1", api.ErrForm, 0)
	refuses(t, "8 '1", api.ErrForm, 2)
	refuses(t, "8'1.0", api.ErrForm, 3)
	refuses(t, "8'-1", api.ErrForm, 0)
	gives(t, "8'1&8'1", row(8, 0, 1), at(3, mark("&")), at(4, row(8, 0, 1)))
}

func TestScanGaps(t *testing.T) {
	for _, g := range gaps() {
		gives(t, "a"+g+"b", word("a"), at(1+len(g), word("b")))
		gives(t, g+"a"+g, at(len(g), word("a")))
		gives(t, "1"+g+"1", number(1), at(1+len(g), number(1)))
	}
	for _, g := range []string{"\v", "\f", "\x00", "\u0085", "\u00a0", "\u2028", "\u3000", "\ufeff", "\x1c"} {
		refuses(t, "a"+g+"b", api.ErrForm, 1)
	}
	// A remark goes on up to the line feed: neither a return nor another one ends it.
	gives(t, "a # b # c\rd\u2028e\nf", word("a"), at(16, word("f")))
	gives(t, "a#b;\n#c", word("a"))
}

func TestScanAtTheGreatestLength(t *testing.T) {
	for _, n := range []int{16383, 16384} {
		l, err := lex.Scan(strings.Repeat(";", n))
		if err != nil || len(l) != n || l[n-1] != at(n-1, mark(";")) {
			t.Errorf("Scan of %d marks: %d, %v", n, len(l), err)
		}
	}
	gives(t, strings.Repeat(" ", 16383)+"a", at(16383, word("a")))
	gives(t, "a"+strings.Repeat("\n", 16383), word("a"))
	refuses(t, strings.Repeat(" ", 16383)+"%", api.ErrForm, 16383)
	refuses(t, strings.Repeat(" ", 16383)+"\xc3", api.ErrForm, 16383)
	// Of a text that is too long nothing else is told: not what is wrong within it.
	for _, s := range []string{";", " ", "a", "%", "1", "#", "é", "\xff", "8'"} {
		refuses(t, strings.Repeat(s, 16385/len(s)+1)[:16385], api.ErrLong, 0)
		refuses(t, strings.Repeat(s, 20000), api.ErrLong, 0)
		asModel(t, strings.Repeat(s, 16384)[:16384])
	}
	refuses(t, "%"+strings.Repeat(" ", 16384), api.ErrLong, 0)
	// Bytes count, not runes.
	refuses(t, "#"+strings.Repeat("é", 8192), api.ErrLong, 0)
	gives(t, "##"+strings.Repeat("é", 8191))
}

// The first token that may not be is told, whatever is wrong with those behind it.
func TestScanTellsTheFirstFault(t *testing.T) {
	faults := map[string]api.Errno{"%": api.ErrForm, "1a": api.ErrForm, strings.Repeat("a", 25): api.ErrLong, "9223372036854775808": api.ErrRange, "129'1": api.ErrWidth, "8'100": api.ErrRange, "8'": api.ErrForm}
	for s, e := range faults {
		for behind := range faults {
			refuses(t, "é # %\n  "+s+" "+behind, e, 9)
			refuses(t, s+";"+behind, e, 0)
		}
	}
}

// Promise 6.4: a text is the same tokens, whatever lies between them.
func TestGapsMakeNoDifference(t *testing.T) {
	for _, s := range mixed(500, 12) {
		want, err := lex.Scan(s)
		if err != nil {
			continue
		}
		for _, g := range gaps() {
			var b strings.Builder
			b.WriteString(g)
			for _, x := range want {
				b.WriteString(lex.Text(x) + g)
			}
			l, err := lex.Scan(b.String())
			if err != nil || !slices.Equal(unplaced(l), unplaced(want)) {
				t.Fatalf("Scan(%q) = %v, %v; want %v", b.String(), l, err, want)
			}
		}
	}
}

// What is told is new memory: neither the text's, nor another answer's.
func TestScanIsNewMemory(t *testing.T) {
	s := strings.Clone("word another { 8'1 } 17")
	first, _ := lex.Scan(s)
	second, _ := lex.Scan(s)
	for i, x := range first {
		if x.S == "" {
			continue
		}
		from, p := uintptr(unsafe.Pointer(unsafe.StringData(s))), uintptr(unsafe.Pointer(unsafe.StringData(x.S)))
		if p >= from && p < from+uintptr(len(s)) {
			t.Errorf("the token %v lies in the text", x)
		}
		if x.Kind == lex.Word && unsafe.StringData(x.S) == unsafe.StringData(second[i].S) {
			t.Errorf("the token %v lies in two answers", x)
		}
	}
	want := slices.Clone(second)
	clear(first[:cap(first)])
	if !slices.Equal(second, want) {
		t.Errorf("turned what was told: %v; want %v", second, want)
	}
	third, _ := lex.Scan(s)
	if !slices.Equal(third, want) {
		t.Errorf("turned what was told: %v; want %v", third, want)
	}
}

// What was asked before makes no difference.
func TestScanKeepsNothing(t *testing.T) {
	for i := range 3 {
		for _, s := range mixed(200, 6) {
			lex.Scan(strings.Repeat("%", i))
			asModel(t, s)
			asModel(t, s+strconv.Itoa(i))
		}
	}
}
