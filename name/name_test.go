package name_test

import (
	"math"
	"slices"
	"strings"
	"testing"
	"unicode"
	"unicode/utf8"

	"shunter/name"
)

// Promise 5.1.

// runes are all that there are, some numbers below and above them, and the outermost ones.
func runes(do func(c rune)) {
	for c := rune(-1000); c <= unicode.MaxRune+1000; c++ {
		do(c)
	}
	for _, c := range []rune{math.MinInt32, math.MinInt32 + 1, math.MaxInt32 - 1, math.MaxInt32} {
		do(c)
	}
}

func TestLetter(t *testing.T) {
	letter := letters()
	count := 0
	runes(func(c rune) {
		is(t, name.Letter(c), letter[c], "Letter", c)
		if name.Letter(c) {
			count++
		}
	})
	is(t, count, 53+398+56+256, "how many letters")
}

func TestLetterEdges(t *testing.T) {
	for _, c := range []rune{'A', 'M', 'Z', 'a', 'm', 'z', '_', 0xc0, 0xd6, 0xd8, 0xde, 0xdf, 0xe0, 0xf6, 0xf8, 0xff, 0x100, 0x24f, 0x391, 0x3a1, 0x3a3, 0x3a9, 0x3aa, 0x3ab, 0x3b1, 0x3c2, 0x3c3, 0x3c9, 0x400, 0x40f, 0x410, 0x42f, 0x430, 0x44f, 0x450, 0x45f, 0x460, 0x482, 0x4ff} {
		is(t, name.Letter(c), true, "Letter", c)
	}
	for _, c := range []rune{math.MinInt32, -'a', -1, 0, '\n', ' ', '-', '.', '/', '0', '9', ':', '@', '[', '^', '`', '{', 0x7f, 0x80, 0xaa, 0xb5, 0xba, 0xbf, 0xd7, 0xf7, 0x250, 0x370, 0x37f, 0x386, 0x38c, 0x390, 0x3a2, 0x3ca, 0x3ff, 0x500, 0x1e9e, 0x4e00, 0xd800, 0xfffd, 0x10000 + 'a', unicode.MaxRune, math.MaxInt32} {
		is(t, name.Letter(c), false, "Letter", c)
	}
}

func TestDigit(t *testing.T) {
	runes(func(c rune) {
		is(t, name.Digit(c), strings.ContainsRune("0123456789", c) && utf8.ValidRune(c), "Digit", c)
	})
	for _, c := range []rune{'/', ':', 0xb2, 0x660, 0xff10, -'0'} {
		is(t, name.Digit(c), false, "Digit", c)
	}
}

func TestMay(t *testing.T) {
	letter := letters()
	for _, s := range texts() {
		is(t, name.May(s), mayBe(s, letter), "May", s)
	}
	for c := range rune(unicode.MaxRune + 1) {
		for _, s := range []string{string(c), "a" + string(c), "Ж" + string(c) + "z"} {
			is(t, name.May(s), mayBe(s, letter), "May", s)
		}
	}
}

func TestMayEdges(t *testing.T) {
	for _, s := range []string{
		"Straße", "ÉTÉ", "λ", "Λογος", "Ёлка", "_", "__", "a-", "a.", "a--..", "a1", "_9", "ip.ttl", "x-1", "Àɏ", "Ѐӿ",
		strings.Repeat("a", 23), strings.Repeat("a", 24), strings.Repeat("ё", 24), "a" + strings.Repeat("0", 23), "a" + strings.Repeat("-", 23), "a" + strings.Repeat(".", 23),
	} {
		is(t, name.May(s), true, "May", s)
	}
	for _, s := range []string{
		"", "1", "1x", "-", "-a", ".", ".a", " ", " a", "a ", "a b", "a\n", "\na", "a_b+", "a/b", "a:", "a'", "×", "a×", "a÷b", "a\u03a2", "λόγος", "é\u0301", "日本", "a日", "😀", "a😀",
		strings.Repeat("a", 25), strings.Repeat("ё", 25), strings.Repeat("a", 24) + "-", strings.Repeat("a", 24) + "9", strings.Repeat("a", 1<<20),
		"\ufffd", "a\ufffd", "\x80", "\xff", "a\xff", "a\xc3", "\xc3", "\xa9a", "a\xc3b", "a\x00",
	} {
		is(t, name.May(s), false, "May", s)
	}
	for _, s := range broken() {
		is(t, name.May(s), false, "May", s)
	}
}

func TestFold(t *testing.T) {
	fold := folds()
	is(t, len(fold), 26+30+24+1+16+32, "how many folds")
	runes(func(c rune) {
		want := c
		if f, ok := fold[c]; ok {
			want = f
		}
		is(t, name.Fold(c), want, "Fold", c)
	})
}

func TestFoldEdges(t *testing.T) {
	for c, want := range map[rune]rune{
		'A': 'a', 'Z': 'z', 'Q': 'q', 0xc0: 0xe0, 0xd6: 0xf6, 0xd8: 0xf8, 0xde: 0xfe, 0x391: 0x3b1, 0x3a1: 0x3c1, 0x3a3: 0x3c3, 0x3a9: 0x3c9, 0x3c2: 0x3c3, 0x400: 0x450, 0x40f: 0x45f, 0x410: 0x430, 0x42f: 0x44f,
	} {
		is(t, name.Fold(c), want, "Fold", c)
	}
	for _, c := range []rune{math.MinInt32, -'A', -1, 0, '@', '[', '`', 'a', 'z', '{', '_', '0', 0xbf, 0xd7, 0xdf, 0xe0, 0xf7, 0xff, 0x100, 0x130, 0x178, 0x212a, 0x390, 0x3a2, 0x3aa, 0x3ab, 0x3b1, 0x3c1, 0x3c3, 0x3c4, 0x3ff, 0x430, 0x450, 0x460, 0x4c0, 0xfffd, math.MaxInt32} {
		is(t, name.Fold(c), c, "Fold", c)
	}
}

func TestKey(t *testing.T) {
	fold := folds()
	for _, s := range texts() {
		key := name.Key(s)
		is(t, key, string(folded(s, fold)), "Key", s)
		is(t, utf8.ValidString(key), true, "Key is of runes", s)
		is(t, name.Key(key), key, "Key of the Key", s)
	}
	for _, c := range [][2]string{
		{"", ""}, {"Straße", "straße"}, {"ÉTÉ", "été"}, {"ΛΟΓΟΣ", "λογοσ"}, {"λογος", "λογοσ"}, {"ЁЛКА Џ", "ёлка џ"}, {"A×B÷C", "a×b÷c"}, {"İŸĀ", "İŸĀ"}, {"_-.09\n€😀日", "_-.09\n€😀日"},
		{"\xff", "\ufffd"}, {"\ufffd", "\ufffd"}, {"A\xc3", "a\ufffd"}, {"\xc3B", "\ufffdb"}, {"\xe2\x82", "\ufffd\ufffd"}, {"\xf0\x9f\x98Z", "\ufffd\ufffd\ufffdz"}, {"\xed\xa0\x80", "\ufffd\ufffd\ufffd"}, {"\xc1\x81", "\ufffd\ufffd"},
	} {
		is(t, name.Key(c[0]), c[1], "Key", c[0])
	}
}

// Promises 5.1 and 5.3: texts are alike in any order.
func TestAlike(t *testing.T) {
	fold := folds()
	for _, a := range texts() {
		for _, b := range texts() {
			is(t, name.Alike(a, b), slices.Equal(folded(a, fold), folded(b, fold)), "Alike", a, b)
			is(t, name.Alike(b, a), name.Alike(a, b), "Alike turned round", a, b)
			is(t, name.Key(a) == name.Key(b), name.Alike(a, b), "one Key, as Alike", a, b)
		}
		is(t, name.Alike(a, a), true, "Alike", a)
		is(t, name.Alike(a, name.Key(a)), true, "Alike the Key", a)
	}
}

func TestAlikeEdges(t *testing.T) {
	for _, c := range [][2]string{{"", ""}, {"ÉTÉ", "été"}, {"σας", "ΣΑΣ"}, {"ς", "σ"}, {"ЁЏАЯ", "ёџая"}, {"\xff", "\ufffd"}, {"\x80", "\xff"}, {"\xe2\x82", "\xff\xff"}, {"A\xc3", "a\ufffd"}, {"-X.9", "-x.9"}} {
		is(t, name.Alike(c[0], c[1]), true, "Alike", c[0], c[1])
	}
	for _, c := range [][2]string{{"", "a"}, {"a", "b"}, {"a", "aa"}, {"×", "÷"}, {"ß", "ss"}, {"ß", "ÿ"}, {"Ÿ", "ÿ"}, {"Ā", "ā"}, {"é", "e"}, {"é", "e\u0301"}, {"Ϊ", "ϊ"}, {"Ѡ", "ѡ"}, {"A", "А"}, {"İ", "i"}, {"K", "\u212a"}, {"@", "`"}, {"[", "{"}, {"\xff", "\ufffd\ufffd"}, {"\xff", ""}, {"a\n", "a"}, {"_", "\x7f"}} {
		is(t, name.Alike(c[0], c[1]), false, "Alike", c[0], c[1])
	}
}

// Promises 5.1 and 5.3: of any two texts, one comes ahead of the other one, or they are one.
func TestLess(t *testing.T) {
	fold := folds()
	for _, a := range texts() {
		for _, b := range texts() {
			is(t, name.Less(a, b), order(a, b, fold) < 0, "Less", a, b)
			is(t, name.Less(a, b) || name.Less(b, a), a != b, "Less or greater", a, b)
		}
	}
}

func TestLessEdges(t *testing.T) {
	// Each one comes ahead of all behind it.
	l := []string{
		"", "\x00", "\n", "-", ".", "0", "9", "[", "_", "A", "a", "A\x00", "a\x00", "AA", "Aa", "aA", "aa", "aaa", "AB", "aB", "AÀ", "a\ufffd", "a\xff", "B", "b", "BA", "Z", "z", "z\n", "{",
		"\u0080", "×", "ß", "À", "à", "÷", "Þ", "þ", "ÿ", "Ÿ", "Ϊ", "Α", "α", "ΣΑΣ", "σας", "σασ", "Ω", "ω", "А", "а", "Я", "я", "Ѐ", "ѐ", "Џ", "џ", "Ѡ", "ӿ", "€", "\ud7ff", "\ue000", "\uffee",
		// These four have one key, and their bytes tell.
		"\x80", "\xe2", "\ufffd", "\xff",
		"\x80\x80", "\ufffe", "\uffff", "\U00010000", "😀", "\U0010ffff",
	}
	for i, a := range l {
		for j, b := range l {
			is(t, name.Less(a, b), i < j, "Less", a, b)
		}
	}
}

// Promise 5.3: whatever the order that texts are in, they come into one.
func TestLessOrdersThemAll(t *testing.T) {
	fold := folds()
	want := texts()
	slices.SortFunc(want, func(a, b string) int { return order(a, b, fold) })
	l := texts()
	for range 3 {
		slices.Reverse(l)
		l = append(l[7:], l[:7]...)
		got := slices.Clone(l)
		slices.SortFunc(got, func(a, b string) int {
			switch {
			case name.Less(a, b):
				return -1
			case name.Less(b, a):
				return 1
			}
			return 0
		})
		is(t, slices.Equal(got, want), true, "sorted", got)
	}
	// What is alike stands together.
	for i := 2; i < len(want); i++ {
		if name.Alike(want[i-2], want[i]) {
			is(t, name.Alike(want[i-1], want[i]), true, "Alike, as what stands about it", want[i-1])
		}
	}
}

// Promise 5.3.
func TestKeyOfANameIsAName(t *testing.T) {
	for _, s := range texts() {
		if name.May(s) {
			is(t, name.May(name.Key(s)), true, "May of the Key", s)
		}
	}
	for c := range letters() {
		for _, s := range []string{string(c), "x" + string(c), strings.Repeat(string(c), 24)} {
			is(t, name.May(s), true, "May", s)
			is(t, name.May(name.Key(s)), true, "May of the Key", s)
		}
	}
}
