package verify

import (
	"shunter/api"
	"shunter/image"
	"shunter/typing"
)

// Why is what isn't so, and where.
func Why(err error) (api.Errno, int, int, int) {
	return told(err)
}

// told has the type switch, for none may stand in an exported function on what is handed in. An error that holds a nil pointer tells of nothing, as in the layers whose it is.
func told(err error) (api.Errno, int, int, int) {
	switch x := err.(type) {
	case nil:
		return api.OK, 0, 0, 0
	case *image.Flaw:
		return flaw(x)
	case *typing.Wrong:
		w, _ := typing.Why(x)
		return w.E, w.Part, w.N, w.At
	}
	return api.ErrKind, 0, 0, 0
}

// flaw has no place, for layer 10 tells none within a thing.
func flaw(f *image.Flaw) (api.Errno, int, int, int) {
	if f == nil {
		return api.OK, 0, 0, 0
	}
	part, n, e := image.Why(f)
	return e, part, n, -1
}
