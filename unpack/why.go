package unpack

import (
	"shunter/api"
	"shunter/image"
	"shunter/wire"
)

// Why is what is wrong, and where; whether it is the bytes.
func Why(err error) (api.Errno, int, bool) {
	if err == nil {
		return api.OK, 0, false
	}
	return told(err)
}

// told has the assertions, for none may stand in an exported function on what is handed in. An error that holds a nil pointer tells of nothing, as in the layers whose it is.
func told(err error) (api.Errno, int, bool) {
	if f, ok := err.(*wire.Fault); ok {
		e, at := wire.Why(f)
		return e, at, f != nil
	}
	if f, ok := err.(*image.Flaw); ok {
		part, _, e := image.Why(f)
		return e, part, false
	}
	return api.ErrKind, 0, false
}
