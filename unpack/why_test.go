package unpack_test

import (
	"errors"
	"math"
	"testing"

	"shunter/api"
	"shunter/image"
	"shunter/lex"
	"shunter/unpack"
	"shunter/wire"
)

// other is an error that is none of the two, with a method that may not be called.
type other struct{}

func (other) Error() string { panic("asked for its text") }

// wrapper holds another error.
type wrapper struct{ inner error }

func (w wrapper) Error() string { return "wrapped" }
func (w wrapper) Unwrap() error { return w.inner }

// faultAlias and flawAlias are types of their own, though they have what a fault, and a flaw, has.
type faultAlias wire.Fault

func (a *faultAlias) Error() string { return "alias" }

type flawAlias image.Flaw

func (a *flawAlias) Error() string { return "alias" }

// faultWithin has a fault's methods.
type faultWithin struct{ *wire.Fault }

type flawWithin struct{ *image.Flaw }

// Promise 12.2: what is wrong, and where; whether it is the bytes.
func TestWhy(t *testing.T) {
	errnos := []api.Errno{api.OK, api.ErrArg, api.ErrLong, api.ErrEnd, api.ErrForm, api.ErrKind, api.ErrStuck, 20, -1, math.MaxInt, math.MinInt}
	numbers := []int{0, 1, 5, 14, 15, 65535, -1, math.MaxInt, math.MinInt}
	for _, e := range errnos {
		for _, at := range numbers {
			why(t, &wire.Fault{E: e, At: at}, e, at, true)
			for _, n := range numbers {
				why(t, &image.Flaw{Part: at, N: n, E: e}, e, at, false)
			}
		}
	}
	why(t, nil, api.OK, 0, false)
}

func TestWhyOfOthers(t *testing.T) {
	fault, flaw := &wire.Fault{E: api.ErrForm, At: 2}, &image.Flaw{Part: 4, N: 2, E: api.ErrNone}
	for _, err := range []error{
		errors.New(""), errors.New("fault 4 at byte 2"), errors.New("flaw 5 in 4, 2"), other{}, &other{}, (*other)(nil),
		wrapper{}, wrapper{fault}, wrapper{flaw}, errors.Join(fault), errors.Join(fault, flaw),
		(*faultAlias)(fault), (*flawAlias)(flaw), faultWithin{fault}, flawWithin{flaw}, faultWithin{}, flawWithin{},
		&lex.Fault{E: api.ErrForm, At: 2}, (*lex.Fault)(nil),
	} {
		why(t, err, api.ErrKind, 0, false)
	}
	// They tell of nothing, as for layers 7 and 10.
	why(t, (*wire.Fault)(nil), api.OK, 0, false)
	why(t, (*image.Flaw)(nil), api.OK, 0, false)
}

func why(t *testing.T, err error, e api.Errno, at int, inBytes bool) {
	t.Helper()
	if gotE, gotAt, gotIn := unpack.Why(err); gotE != e || gotAt != at || gotIn != inBytes {
		t.Errorf("Why(%#v) = %d, %d, %t; want %d, %d, %t", err, gotE, gotAt, gotIn, e, at, inBytes)
	}
}
