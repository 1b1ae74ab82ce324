package name_test

import (
	"math"
	"slices"
	"strings"
	"testing"

	"shunter/name"
)

// Promise 5.2.

func TestLen(t *testing.T) {
	for _, s := range texts() {
		l, _ := cut(s)
		is(t, name.Len(s), len(l), "Len", s)
	}
	for s, want := range map[string]int{
		"": 0, "a": 1, "Straße": 6, "é€😀": 3, "\n\n": 2, "\x00": 1, "\ufffd": 1, "\xff": 1, "\xff\xff": 2, "\xc3": 1, "\xe2\x82": 2, "\xf0\x9f\x98": 3, "\xf0\x9f\x98\x80": 1, "\xe2\x82a": 3, "\xed\xa0\x80": 3, "e\u0301": 2,
	} {
		is(t, name.Len(s), want, "Len", s)
	}
}

// Promises 5.2 and 5.3: what is clipped of all runes, or of more, is the text.
func TestClip(t *testing.T) {
	for _, s := range texts() {
		_, l := cut(s)
		for _, n := range counts(s) {
			want := strings.Join(l[:min(max(n, 0), len(l))], "")
			is(t, name.Clip(s, n), want, "Clip", s, n)
		}
		is(t, name.Clip(s, name.Len(s)), s, "Clip of all runes", s)
	}
}

func TestClipEdges(t *testing.T) {
	for _, c := range []struct {
		s    string
		n    int
		want string
	}{
		{"", 0, ""}, {"", 1, ""}, {"", -1, ""}, {"", math.MaxInt, ""}, {"", math.MinInt, ""},
		{"Straße", 4, "Stra"}, {"Straße", 5, "Straß"}, {"Straße", 6, "Straße"}, {"Straße", 7, "Straße"}, {"Straße", 0, ""}, {"Straße", -1, ""}, {"Straße", math.MinInt, ""}, {"Straße", math.MaxInt, "Straße"},
		{"é€😀x", 1, "é"}, {"é€😀x", 2, "é€"}, {"é€😀x", 3, "é€😀"}, {"A\nb", 2, "A\n"},
		{"\xffA", 1, "\xff"}, {"\xffA", 2, "\xffA"}, {"\xe2\x82A", 1, "\xe2"}, {"\xe2\x82A", 2, "\xe2\x82"}, {"A\xc3", 1, "A"}, {"A\xc3", 2, "A\xc3"}, {"\ufffdA", 1, "\ufffd"},
	} {
		is(t, name.Clip(c.s, c.n), c.want, "Clip", c.s, c.n)
	}
}

func TestPlace(t *testing.T) {
	for _, s := range texts() {
		for _, at := range counts(s) {
			line, column := name.Place(s, at)
			wantLine, wantColumn := placeOf(s, at)
			is(t, [2]int{line, column}, [2]int{wantLine, wantColumn}, "Place", s, at)
		}
	}
}

func TestPlaceEdges(t *testing.T) {
	for _, c := range []struct {
		s            string
		at           int
		line, column int
	}{
		{"", 0, 1, 1}, {"", 1, 1, 1}, {"", -1, 1, 1}, {"", math.MaxInt, 1, 1}, {"", math.MinInt, 1, 1},
		{"ab\ncd", 0, 1, 1}, {"ab\ncd", 1, 1, 2}, {"ab\ncd", 2, 1, 3}, {"ab\ncd", 3, 2, 1}, {"ab\ncd", 4, 2, 2}, {"ab\ncd", 5, 2, 3}, {"ab\ncd", 6, 2, 3}, {"ab\ncd", math.MaxInt, 2, 3}, {"ab\ncd", -1, 1, 1}, {"ab\ncd", math.MinInt, 1, 1},
		{"\n", 0, 1, 1}, {"\n", 1, 2, 1}, {"\n", 2, 2, 1}, {"a\n", 2, 2, 1}, {"a\n", 9, 2, 1},
		{"\n\n\na", 1, 2, 1}, {"\n\n\na", 2, 3, 1}, {"\n\n\na", 3, 4, 1}, {"\n\n\na", 4, 4, 2},
		{"a\r\nb", 2, 1, 3}, {"a\r\nb", 3, 2, 1}, {"a\rb", 2, 1, 3}, {"a\u2028b", 4, 1, 3},
		{"éß\n€x", 2, 1, 2}, {"éß\n€x", 4, 1, 3}, {"éß\n€x", 5, 2, 1}, {"éß\n€x", 8, 2, 2}, {"éß\n€x", 9, 2, 3},
		// Within a rune: the bytes of it that stand ahead begin no rune.
		{"éa", 1, 1, 2}, {"€a", 1, 1, 2}, {"€a", 2, 1, 3}, {"€a", 3, 1, 2}, {"\n😀a", 2, 2, 2}, {"\n😀a", 3, 2, 3}, {"\n😀a", 4, 2, 4}, {"\n😀a", 5, 2, 2},
		{"\xff\xffa", 2, 1, 3}, {"\xe2\x82\na", 3, 2, 1}, {"\xe2\x82\na", 2, 1, 3}, {"\ufffda", 3, 1, 2},
	} {
		line, column := name.Place(c.s, c.at)
		is(t, [2]int{line, column}, [2]int{c.line, c.column}, "Place", c.s, c.at)
	}
}

func TestRunes(t *testing.T) {
	for _, s := range texts() {
		l, _ := cut(s)
		isRunes(t, name.Runes(s), l, "Runes", s)
	}
	for s, want := range map[string][]rune{
		"": nil, "aß€😀": {'a', 0xdf, 0x20ac, 0x1f600}, "É\n": {0xc9, '\n'}, "\xff": {0xfffd}, "\ufffd": {0xfffd}, "\xe2\x82": {0xfffd, 0xfffd}, "\xe2\x82a": {0xfffd, 0xfffd, 'a'}, "\xed\xa0\x80": {0xfffd, 0xfffd, 0xfffd}, "a\xc3": {'a', 0xfffd},
	} {
		isRunes(t, name.Runes(s), want, "Runes", s)
	}
}

// What is told is new memory each time.
func TestRunesAreNewMemory(t *testing.T) {
	for _, s := range texts() {
		want, _ := cut(s)
		first, second := name.Runes(s), name.Runes(s)
		first = first[:cap(first)]
		for i := range first {
			first[i] = -1
		}
		isRunes(t, second, want, "turned what was told:", s)
		isRunes(t, name.Runes(s), want, "turned what was told:", s)
	}
}

func TestIndex(t *testing.T) {
	fold := folds()
	l := texts()
	for _, s := range append(texts(), "absent", "\u03ca", "ÉTÉÉ", "\xff\xff\xff\xff\xff") {
		want := slices.IndexFunc(l, func(other string) bool { return slices.Equal(folded(other, fold), folded(s, fold)) })
		is(t, name.Index(l, s), want, "Index", s)
		if want >= 0 {
			is(t, name.Index(l[want:], s), 0, "Index of the first one", s)
		}
	}
}

func TestIndexEdges(t *testing.T) {
	for _, c := range []struct {
		l    []string
		s    string
		want int
	}{
		{nil, "", -1}, {nil, "a", -1}, {[]string{}, "", -1}, {[]string{""}, "", 0}, {[]string{""}, "a", -1}, {[]string{"a"}, "", -1}, {[]string{"a", ""}, "", 1},
		{[]string{"été"}, "ÉTÉ", 0}, {[]string{"a", "b", "c"}, "c", 2}, {[]string{"a", "b", "c"}, "B", 1}, {[]string{"a", "b", "c"}, "d", -1},
		{[]string{"ab", "abc", "AB", "aB"}, "aB", 0}, {[]string{"x", "AB", "aB", "ab"}, "ab", 1}, {[]string{"aa", "a", "A"}, "A", 1}, {[]string{"a", "a", "a"}, "a", 0},
		{[]string{"×", "\xff", "\ufffd"}, "\x80", 1}, {[]string{"\xff\xff", "\ufffd"}, "\xff", 1}, {[]string{"ß", "ss"}, "SS", 1}, {[]string{"σας"}, "ΣΑΣ", 0},
	} {
		is(t, name.Index(c.l, c.s), c.want, "Index", c.l, c.s)
	}
}

// What is handed in isn't changed, and isn't kept: what is told of a list that was changed since is told of what it has now.
func TestIndexKeepsNoList(t *testing.T) {
	l := []string{"B", "a", "A", "b", "\xff"}
	array := slices.Clone(l)
	is(t, name.Index(l[:3], "A"), 1, "Index", l)
	is(t, name.Index(l[:3], "\ufffd"), -1, "Index", l)
	is(t, slices.Equal(l, array), true, "as it was", l)
	l[0], l[1] = "A", "c"
	is(t, name.Index(l[:3], "A"), 0, "Index", l)
	is(t, name.Index(l[:3], "B"), -1, "Index", l)
	is(t, slices.Equal(l, []string{"A", "c", "A", "b", "\xff"}), true, "as it was", l)
}

// What was told stays as it was, whatever is asked behind it.
func TestTextsThatWereToldStay(t *testing.T) {
	var keys, clips []string
	for range 2 {
		for _, s := range texts() {
			keys, clips = append(keys, name.Key(s)), append(clips, name.Clip(s, 3))
		}
	}
	fold := folds()
	for i, s := range append(texts(), texts()...) {
		_, l := cut(s)
		is(t, keys[i], string(folded(s, fold)), "Key, asked of again later", s)
		is(t, clips[i], strings.Join(l[:min(3, len(l))], ""), "Clip, asked of again later", s)
	}
}
