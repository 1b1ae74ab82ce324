package wire_test

import (
	"errors"
	"math"
	"runtime"
	"strconv"
	"testing"

	"shunter/api"
	"shunter/lex"
	"shunter/wire"
)

// other is an error that is none of the package's, with a method that may not be called.
type other struct{}

func (other) Error() string { panic("asked for its text") }

// wrapper holds another error.
type wrapper struct{ inner error }

func (w wrapper) Error() string { return "wrapped" }
func (w wrapper) Unwrap() error { return w.inner }

// alias is a type of its own, though it has what a fault has.
type alias wire.Fault

func (a *alias) Error() string { return "alias" }

func faults() []*wire.Fault {
	var l []*wire.Fault
	for _, n := range []int{0, 1, 2, 7, 65535, -1, math.MaxInt, math.MinInt} {
		for _, e := range errnos() {
			l = append(l, &wire.Fault{E: e, At: n})
		}
	}
	return l
}

func others() []error {
	f := &wire.Fault{E: api.ErrForm, At: 2}
	return []error{errors.New(""), errors.New("fault 4 at byte 2"), other{}, &other{}, (*other)(nil), wrapper{f}, wrapper{nil}, &alias{E: api.ErrForm, At: 2}, errors.Join(f), &lex.Fault{E: api.ErrForm, At: 2}, (*lex.Fault)(nil)}
}

// Promise 7.3.

func TestWhy(t *testing.T) {
	why := func(err error, e api.Errno, at int) {
		t.Helper()
		if gotE, gotAt := wire.Why(err); gotE != e || gotAt != at {
			t.Errorf("Why = %d, %d; want %d, %d", gotE, gotAt, e, at)
		}
	}
	for _, f := range faults() {
		why(f, f.E, f.At)
	}
	for _, err := range others() {
		why(err, api.ErrKind, 0)
	}
	why(nil, api.OK, 0)
	why((*wire.Fault)(nil), api.OK, 0)
}

func TestOnly(t *testing.T) {
	for _, f := range faults() {
		want := *f
		if got := wire.Only(f); got != f || *f != want {
			t.Errorf("Only(%v) = %v", want, got)
		}
	}
	if got := wire.Only((*wire.Fault)(nil)); got != nil {
		t.Errorf("Only of a nil fault = %v", got)
	}
}

func TestOnlyPanics(t *testing.T) {
	for i, err := range append(others(), nil) {
		func() {
			defer func() {
				r := recover()
				if _, ok := r.(*runtime.TypeAssertionError); !ok {
					t.Errorf("Only of the error %d: %v; want the assertion's run-time error", i, r)
				}
			}()
			wire.Only(err)
			t.Errorf("Only of the error %d answers", i)
		}()
	}
}

func TestError(t *testing.T) {
	for _, c := range []struct {
		f    *wire.Fault
		want string
	}{
		{&wire.Fault{E: api.ErrForm, At: 2}, "fault 4 at byte 2"}, {&wire.Fault{E: api.ErrLong}, "fault 2 at byte 0"}, {&wire.Fault{E: api.ErrStuck, At: 65535}, "fault 19 at byte 65535"}, {&wire.Fault{}, "fault 0 at byte 0"}, {&wire.Fault{E: -1, At: -20}, "fault -1 at byte -20"},
		{&wire.Fault{E: 1000000, At: math.MaxInt}, "fault 1000000 at byte 9223372036854775807"}, {nil, ""},
	} {
		if got := c.f.Error(); got != c.want {
			t.Errorf("Error of %v = %q; want %q", c.f, got, c.want)
		}
	}
	for _, f := range faults() {
		if got := error(f).Error(); got != "fault "+strconv.Itoa(int(f.E))+" at byte "+strconv.Itoa(f.At) {
			t.Errorf("Error of %v = %q", *f, got)
		}
	}
}
