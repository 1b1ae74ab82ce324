package wire

import (
	"strconv"

	"shunter/api"
)

// Fault is what is wrong with bytes, and where.
type Fault struct {
	E  api.Errno
	At int
}

// Error is a fault's text.
func (f *Fault) Error() string {
	if f == nil {
		return ""
	}
	return "fault " + strconv.Itoa(int(f.E)) + " at byte " + strconv.Itoa(f.At)
}

// Why is what is wrong, and where.
func Why(err error) (api.Errno, int) {
	if err == nil {
		return api.OK, 0
	}
	f, ok := asFault(err)
	switch {
	case !ok:
		return api.ErrKind, 0
	case f == nil: // an error that holds a nil *Fault tells of nothing either
		return api.OK, 0
	}
	return f.E, f.At
}

// Only is an error as a fault; it panics, if it is none.
func Only(err error) *Fault {
	return mustFault(err)
}

// The assertions have functions of their own, for none may stand in an exported one on what is handed in.

func asFault(err error) (*Fault, bool) {
	f, ok := err.(*Fault)
	return f, ok
}

// mustFault leaves the panic to the assertion, whose run-time error is promised.
func mustFault(err error) *Fault {
	return err.(*Fault)
}
