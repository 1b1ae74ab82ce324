package name

import (
	"slices"
	"strings"
)

// Len is how many runes a text has.
func Len(s string) int {
	count := 0
	for range s {
		count++
	}
	return count
}

// Clip is a text's first runes.
func Clip(s string, n int) string {
	// A mere piece of the text would share its memory, and keep all of it.
	return strings.Clone(s[:end(s, n)])
}

// Place is the line and the column of a byte.
func Place(s string, at int) (int, int) {
	line, column := 1, 1
	// Cut first: of a rune that the place lies in, the bytes ahead count by themselves.
	for _, c := range s[:min(max(at, 0), len(s))] {
		column++
		if c == '\n' {
			line, column = line+1, 1
		}
	}
	return line, column
}

// Runes is a text's runes.
func Runes(s string) []rune {
	l := make([]rune, 0, Len(s))
	for _, c := range s {
		l = append(l, c)
	}
	return l
}

// Index is the place of what is alike.
func Index(l []string, s string) int {
	key := Key(s)
	return slices.IndexFunc(l, func(other string) bool { return Key(other) == key })
}

// end is where the first n runes end.
func end(s string, n int) int {
	for at := range s {
		if n < 1 {
			return at
		}
		n--
	}
	return len(s)
}
