package image

import (
	"strconv"

	"shunter/api"
)

// Flaw is what isn't so, and where.
type Flaw struct {
	Part, N int
	E       api.Errno
}

// Error is a flaw's text.
func (f *Flaw) Error() string {
	if f == nil {
		return ""
	}
	return "flaw " + strconv.Itoa(int(f.E)) + " in " + strconv.Itoa(f.Part) + ", " + strconv.Itoa(f.N)
}

// Why is the parts of a flaw.
func Why(err error) (int, int, api.Errno) {
	if err == nil {
		return 0, 0, api.OK
	}
	f, ok := asFlaw(err)
	switch {
	case !ok:
		return 0, 0, api.ErrKind
	case f == nil: // an error that holds a nil *Flaw tells of nothing either
		return 0, 0, api.OK
	}
	return f.Part, f.N, f.E
}

// Only is an error as a flaw; it panics, if it is none.
func Only(err error) *Flaw {
	return mustFlaw(err)
}

// The assertions have functions of their own, for none may stand in an exported one on what is handed in.

func asFlaw(err error) (*Flaw, bool) {
	f, ok := err.(*Flaw)
	return f, ok
}

// mustFlaw leaves the panic to the assertion, whose run-time error is promised.
func mustFlaw(err error) *Flaw {
	return err.(*Flaw)
}
