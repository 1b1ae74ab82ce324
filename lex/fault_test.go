package lex_test

import (
	"errors"
	"math"
	"runtime"
	"strconv"
	"testing"

	"shunter/api"
	"shunter/lex"
)

// other is an error that is none of the package's, with a method that may not be called.
type other struct{}

func (other) Error() string { panic("asked for its text") }

// wrapper holds another error.
type wrapper struct{ inner error }

func (w wrapper) Error() string { return "wrapped" }
func (w wrapper) Unwrap() error { return w.inner }

// alias is a type of its own, though it has what a fault has.
type alias lex.Fault

func (a *alias) Error() string { return "alias" }

func faults() []*lex.Fault {
	var l []*lex.Fault
	for _, n := range []int{0, 1, 2, 7, 16384, -1, math.MaxInt, math.MinInt} {
		for _, e := range []api.Errno{api.OK, api.ErrArg, api.ErrLong, api.ErrForm, api.ErrRange, api.ErrStuck, 20, -1, math.MaxInt, math.MinInt} {
			l = append(l, &lex.Fault{E: e, At: n})
		}
	}
	return l
}

func others() []error {
	return []error{errors.New(""), errors.New("fault 4 at 2"), other{}, &other{}, (*other)(nil), wrapper{&lex.Fault{E: api.ErrForm, At: 2}}, wrapper{nil}, &alias{E: api.ErrForm, At: 2}, errors.Join(&lex.Fault{E: api.ErrForm, At: 2})}
}

// Promise 6.2.

func TestWhy(t *testing.T) {
	why := func(err error, e api.Errno, at int) {
		t.Helper()
		if gotE, gotAt := lex.Why(err); gotE != e || gotAt != at {
			t.Errorf("Why = %d, %d; want %d, %d", gotE, gotAt, e, at)
		}
	}
	for _, f := range faults() {
		why(f, f.E, f.At)
	}
	for _, err := range others() {
		why(err, api.ErrKind, 0)
	}
	why(nil, api.OK, 0)
	why((*lex.Fault)(nil), api.OK, 0)
}

func TestWhyOfScans(t *testing.T) {
	for _, s := range all() {
		_, e, at := scanned(s)
		_, err := lex.Scan(s)
		if gotE, gotAt := lex.Why(err); gotE != e || gotAt != at {
			t.Errorf("Why of %q = %d, %d; want %d, %d", s, gotE, gotAt, e, at)
		}
		if err != nil && err.Error() != "fault "+strconv.Itoa(int(e))+" at "+strconv.Itoa(at) {
			t.Errorf("Error of %q = %q", s, err.Error())
		}
	}
}

func TestOnly(t *testing.T) {
	for _, f := range faults() {
		want := *f
		if got := lex.Only(f); got != f || *f != want {
			t.Errorf("Only(%v) = %v", want, got)
		}
	}
	if got := lex.Only((*lex.Fault)(nil)); got != nil {
		t.Errorf("Only of a nil fault = %v", got)
	}
}

func TestOnlyPanics(t *testing.T) {
	for i, err := range append(others(), nil) {
		func() {
			defer func() {
				r := recover()
				if _, ok := r.(*runtime.TypeAssertionError); !ok {
					t.Errorf("Only of the error %d: %v; want the assertion's run-time error", i, r)
				}
			}()
			lex.Only(err)
			t.Errorf("Only of the error %d answers", i)
		}()
	}
}

func TestError(t *testing.T) {
	for _, c := range []struct {
		f    *lex.Fault
		want string
	}{
		{&lex.Fault{E: api.ErrForm, At: 2}, "fault 4 at 2"}, {&lex.Fault{E: api.ErrLong}, "fault 2 at 0"}, {&lex.Fault{E: api.ErrStuck, At: 16383}, "fault 19 at 16383"}, {&lex.Fault{}, "fault 0 at 0"}, {&lex.Fault{E: -1, At: -20}, "fault -1 at -20"},
		{&lex.Fault{E: 1000000, At: math.MaxInt}, "fault 1000000 at 9223372036854775807"}, {nil, ""},
	} {
		if got := c.f.Error(); got != c.want {
			t.Errorf("Error of %v = %q; want %q", c.f, got, c.want)
		}
	}
	for _, f := range faults() {
		if got := error(f).Error(); got != "fault "+strconv.Itoa(int(f.E))+" at "+strconv.Itoa(f.At) {
			t.Errorf("Error of %v = %q", *f, got)
		}
	}
}
