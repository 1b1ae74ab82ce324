package typing

import (
	"strconv"

	"shunter/api"
)

// Wrong is what doesn't fit together, and where.
type Wrong struct {
	Part, N, At int
	E           api.Errno
}

// Error is its text.
func (w *Wrong) Error() string {
	if w == nil {
		return ""
	}
	return "wrong " + strconv.Itoa(int(w.E)) + " in " + strconv.Itoa(w.Part) + ", " + strconv.Itoa(w.N) + ", at " + strconv.Itoa(w.At)
}

// Why is what a Wrong is.
func Why(err error) (Wrong, bool) {
	w := asWrong(err)
	if w == nil {
		return Wrong{}, false
	}
	return *w, true
}

// asWrong has the assertion, for none may stand in an exported function on what is handed in. An error that holds a nil *Wrong tells of nothing either.
func asWrong(err error) *Wrong {
	if w, ok := err.(*Wrong); ok {
		return w
	}
	return nil
}
