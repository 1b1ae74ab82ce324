package lex

import (
	"strconv"
	"strings"

	"shunter/vec"
)

// Text is a token's text.
func Text(t Token) string {
	switch t.Kind {
	case Mark, Word:
		// A token's own text would share its memory.
		return strings.Clone(t.S)
	case Number:
		if t.N >= 0 {
			return strconv.Itoa(t.N)
		}
	case Row:
		return vec.Text(t.V)
	}
	return ""
}

// Join is tokens' texts, with blanks between.
func Join(l []Token) string {
	var b strings.Builder
	for i, t := range l {
		if i > 0 {
			b.WriteByte(' ')
		}
		b.WriteString(Text(t))
	}
	return b.String()
}
