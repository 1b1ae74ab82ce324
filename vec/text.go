package vec

import (
	"strconv"
	"strings"

	"shunter/api"
	"shunter/word"
)

const (
	mark       = "'"
	mostDigits = 3 // of a width
)

// Text is a row's text.
func Text(a api.Vec) string {
	if !May(a) {
		return ""
	}
	return strconv.Itoa(a.W) + mark + word.Text(Word(a), 16)
}

// Parse is the row of a text.
func Parse(s string) (api.Vec, api.Errno) {
	ahead, behind, found := strings.Cut(s, mark)
	if !found || len(ahead) > mostDigits {
		return api.Vec{}, api.ErrForm
	}
	w, e := word.Parse(ahead, 10)
	if e != api.OK {
		return api.Vec{}, api.ErrForm
	}
	x, e := word.Parse(behind, 16)
	if e == api.ErrEnd || e == api.ErrForm {
		return api.Vec{}, api.ErrForm
	}
	// Even a number that no word holds is told only behind the width, and that New asks for first.
	v, fault := New(int(w.Lo), x.Hi, x.Lo)
	if fault == api.OK && e != api.OK {
		return api.Vec{}, e
	}
	return v, fault
}
