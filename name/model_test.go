package name_test

import (
	"math"
	"slices"
	"strings"
	"testing"
	"unicode/utf8"

	"shunter/ground"
)

// The model has the letters and the folds in tables that are filled rune by rune, and takes texts apart by their encoding, without a range over one.

func letters() map[rune]bool {
	l := map[rune]bool{'_': true}
	for _, r := range [][2]rune{{'A', 'Z'}, {'a', 'z'}, {0xc0, 0xd6}, {0xd8, 0xf6}, {0xf8, 0x24f}, {0x391, 0x3a1}, {0x3a3, 0x3c9}, {0x400, 0x4ff}} {
		for c := r[0]; c <= r[1]; c++ {
			l[c] = true
		}
	}
	return l
}

func folds() map[rune]rune {
	l := map[rune]rune{}
	for _, p := range [][2]string{
		{"ABCDEFGHIJKLMNOPQRSTUVWXYZ", "abcdefghijklmnopqrstuvwxyz"},
		{"ÀÁÂÃÄÅÆÇÈÉÊËÌÍÎÏÐÑÒÓÔÕÖØÙÚÛÜÝÞ", "àáâãäåæçèéêëìíîïðñòóôõöøùúûüýþ"},
		{"ΑΒΓΔΕΖΗΘΙΚΛΜΝΞΟΠΡΣΤΥΦΧΨΩς", "αβγδεζηθικλμνξοπρστυφχψωσ"},
		{"ЀЁЂЃЄЅІЇЈЉЊЋЌЍЎЏ", "ѐёђѓєѕіїјљњћќѝўџ"},
		{"АБВГДЕЖЗИЙКЛМНОПРСТУФХЦЧШЩЪЫЬЭЮЯ", "абвгдежзийклмнопрстуфхцчшщъыьэюя"},
	} {
		small := []rune(p[1])
		for i, c := range []rune(p[0]) {
			l[c] = small[i]
		}
	}
	return l
}

// cut has a text's runes, and the bytes of each.
func cut(s string) ([]rune, []string) {
	var runes []rune
	var bytes []string
	for len(s) > 0 {
		c, n := utf8.DecodeRuneInString(s)
		runes, bytes = append(runes, c), append(bytes, s[:n])
		s = s[n:]
	}
	return runes, bytes
}

func mayBe(s string, letter map[rune]bool) bool {
	runes, _ := cut(s)
	for i, c := range runes {
		if !letter[c] && (i == 0 || !strings.ContainsRune("0123456789-.", c)) {
			return false
		}
	}
	return len(runes) >= 1 && len(runes) <= 24
}

// folded is a text's key as runes.
func folded(s string, fold map[rune]rune) []rune {
	runes, _ := cut(s)
	for i, c := range runes {
		if f, ok := fold[c]; ok {
			runes[i] = f
		}
	}
	return runes
}

// order is below 0, 0 or above it, as a comes ahead of b, is b, or comes behind it.
func order(a, b string, fold map[rune]rune) int {
	if n := slices.Compare(folded(a, fold), folded(b, fold)); n != 0 {
		return n
	}
	return slices.Compare([]byte(a), []byte(b))
}

// placeOf counts from the place backwards.
func placeOf(s string, at int) (int, int) {
	if at < 0 {
		at = 0
	}
	if at > len(s) {
		at = len(s)
	}
	lines := strings.Split(s[:at], "\n")
	last, _ := cut(lines[len(lines)-1])
	return len(lines), len(last) + 1
}

// broken are bytes that begin no rune's encoding, by themselves and within texts: bytes that go on, those that begin nothing, encodings that are cut, too long, of half a pair, or above the greatest rune.
func broken() []string {
	return []string{
		"\x80", "\xbf", "\xc0", "\xc1", "\xf5", "\xff", "\xfe\xff",
		"\xc3", "\xce", "\xd0", "\xe2", "\xe2\x82", "\xf0", "\xf0\x9f", "\xf0\x9f\x98",
		"\xc0\x80", "\xc1\x81", "\xe0\x80\xaf", "\xed\xa0\x80", "\xed\xbf\xbf", "\xf0\x80\x80\x80", "\xf4\x90\x80\x80",
		"a\xc3", "\xc3b", "a\xc3b", "a\xe2\x82b", "é\xa9", "\xc3é", "\xe2\x82€", "\xf0\x9f\x98😀", "😀\x80", "A\xff", "a\xff", "\xff\xff",
		"x\n\xe2\x82\n", "\xe2\n\x82\xac", "\n\xff", "\xff\n",
	}
}

// texts are ordinary ones in letters of all four scripts, and those about the edges.
func texts() []string {
	l := []string{
		"", "a", "A", "b", "Z", "z", "_", "-", ".", "0", "9", "ab", "aB", "Ab", "AB", "abc", "a-1.b", "1x", "-x", ".x", "_x", "a b", "a,b",
		"Straße", "STRASSE", "STRAßE", "straße", "ÉTÉ", "été", "Été", "\u0065\u0301", "×", "÷", "a×", "a÷", "Þ", "þ", "ß", "ÿ", "Ÿ", "Ā", "ā", "ɏ", "ɐ",
		"ΛΌΓΟΣ", "ΛΟΓΟΣ", "λογοσ", "λογος", "λογοΣ", "σς", "ςσ", "ςς", "σσ", "ΣΣ", "Ω", "ω", "ϊ", "ΐ",
		"Ёлка", "ёлка", "ЁЛКА", "елка", "Џ", "џ", "А", "а", "Я", "я", "ѐ", "Ѡ", "ѡ", "ӿ", "Ԁ",
		"\ufffd", "a\ufffd", "\ufffd\ufffd", "\ufffd\n", "\uffff", "\U0010ffff", "€", "a€b", "€uro", "😀", "a😀b", "日本", "\x00", "a\x00", "\x7f", "\u0080",
		"\n", "\n\n", "\n\n\n", "a\n", "\na", "a\nb", "ab\ncd", "ab\ncd\n", "\nab\n\ncd", "é\nß€\n😀x\n\nΩ", "a\r\nb", "\t\n ", "a\u0085b", "a\u2028b",
		"a0123456789012345678901234567", "ÀÀ", "àÀ", "zz", "ZZ", "Zz", "zZ", "zZz",
		strings.Repeat("a", 24), strings.Repeat("a", 25), strings.Repeat("é", 24), strings.Repeat("É", 25), "Ж" + strings.Repeat("9", 23), "Ж" + strings.Repeat("9", 24), strings.Repeat("ab\n", 200), strings.Repeat("😀", 300),
	}
	l = append(l, broken()...)
	for _, n := range []int{1, 2, 5, 17, 40, 300} {
		l = append(l, string(ground.Bytes(n)))
	}
	return l
}

// counts are from below 0 to above what a text has, and the outermost ones.
func counts(s string) []int {
	l := []int{math.MinInt, math.MinInt + 1, math.MinInt32, -1000, -2, -1, math.MaxInt32, math.MaxInt32 + 1, math.MaxInt - 1, math.MaxInt}
	for n := range len(s) + 4 {
		l = append(l, n)
	}
	return l
}

func is[T comparable](t *testing.T, got, want T, call string, args ...any) {
	t.Helper()
	if got != want {
		t.Fatalf("%s %q = %v; want %v", call, args, got, want)
	}
}

func isRunes(t *testing.T, got, want []rune, call string, args ...any) {
	t.Helper()
	if !slices.Equal(got, want) {
		t.Fatalf("%s %q = %x; want %x", call, args, got, want)
	}
}
