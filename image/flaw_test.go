package image_test

import (
	"errors"
	"math"
	"runtime"
	"strconv"
	"testing"

	"shunter/api"
	"shunter/image"
	"shunter/lex"
	"shunter/wire"
)

// other is an error that is none of the package's, with a method that may not be called.
type other struct{}

func (other) Error() string { panic("asked for its text") }

// wrapper holds another error.
type wrapper struct{ inner error }

func (w wrapper) Error() string { return "wrapped" }
func (w wrapper) Unwrap() error { return w.inner }

// alias is a type of its own, though it has what a flaw has.
type alias image.Flaw

func (a *alias) Error() string { return "alias" }

func someFlaws() []*image.Flaw {
	numbers := []int{0, 1, 4, 14, 15, 31, -1, math.MaxInt, math.MinInt}
	var l []*image.Flaw
	for _, part := range numbers {
		for _, n := range numbers {
			for _, e := range []api.Errno{api.OK, api.ErrArg, api.ErrForm, api.ErrLoop, api.ErrStuck, 20, -1, math.MaxInt, math.MinInt} {
				l = append(l, &image.Flaw{Part: part, N: n, E: e})
			}
		}
	}
	return l
}

func others() []error {
	f := &image.Flaw{Part: 4, N: 2, E: api.ErrForm}
	return []error{errors.New(""), errors.New("flaw 4 in 4, 2"), other{}, &other{}, (*other)(nil), wrapper{f}, wrapper{nil}, &alias{Part: 4, N: 2, E: api.ErrForm}, errors.Join(f), &lex.Fault{E: api.ErrForm, At: 2}, &wire.Fault{E: api.ErrForm, At: 2}, (*wire.Fault)(nil)}
}

// Promise 10.1: the parts of a flaw.

func TestWhy(t *testing.T) {
	for _, f := range someFlaws() {
		is(t, tell(image.Why(f)), found{f.Part, f.N, f.E}, "Why", f)
	}
	for i, err := range others() {
		is(t, tell(image.Why(err)), found{0, 0, api.ErrKind}, "Why of another error", i)
	}
	is(t, tell(image.Why(nil)), found{}, "Why of nil")
	is(t, tell(image.Why((*image.Flaw)(nil))), found{}, "Why of a nil flaw")
	is(t, tell(image.Why(image.Check(right()))), found{}, "Why of what is right")
}

func TestOnly(t *testing.T) {
	for _, f := range someFlaws() {
		want := *f
		if got := image.Only(f); got != f || *f != want {
			t.Errorf("Only(%v) = %v", want, got)
		}
	}
	if got := image.Only((*image.Flaw)(nil)); got != nil {
		t.Errorf("Only of a nil flaw = %v", got)
	}
	is(t, *image.Only(image.Check(api.Image{Name: "m"})), image.Flaw{E: api.ErrRange}, "Only of what Check tells")
}

func TestOnlyPanics(t *testing.T) {
	for i, err := range append(others(), nil) {
		func() {
			defer func() {
				r := recover()
				if _, ok := r.(*runtime.TypeAssertionError); !ok {
					t.Errorf("Only of the error %d: %v; want the assertion's run-time error", i, r)
				}
			}()
			image.Only(err)
			t.Errorf("Only of the error %d answers", i)
		}()
	}
}

func TestError(t *testing.T) {
	for _, c := range []struct {
		f    *image.Flaw
		want string
	}{
		{&image.Flaw{Part: 5, N: 2, E: api.ErrLoop}, "flaw 12 in 5, 2"}, {&image.Flaw{E: api.ErrRange}, "flaw 7 in 0, 0"}, {&image.Flaw{Part: 14, N: 7, E: api.ErrStuck}, "flaw 19 in 14, 7"}, {&image.Flaw{}, "flaw 0 in 0, 0"}, {&image.Flaw{Part: -1, N: -20, E: -3}, "flaw -3 in -1, -20"},
		{&image.Flaw{Part: 100, N: math.MaxInt, E: 1000000}, "flaw 1000000 in 100, 9223372036854775807"}, {nil, ""},
	} {
		is(t, c.f.Error(), c.want, "Error of", c.f)
	}
	for _, f := range someFlaws() {
		is(t, error(f).Error(), "flaw "+strconv.Itoa(int(f.E))+" in "+strconv.Itoa(f.Part)+", "+strconv.Itoa(f.N), "Error of", *f)
	}
}
