package typing_test

import (
	"errors"
	"math"
	"strconv"
	"testing"

	"shunter/api"
	"shunter/image"
	"shunter/typing"
	"shunter/wire"
)

// other is an error that is none of the package's, with a method that may not be called.
type other struct{}

func (other) Error() string { panic("asked for its text") }

// wrapper holds another error.
type wrapper struct{ inner error }

func (w wrapper) Error() string { return "wrapped" }
func (w wrapper) Unwrap() error { return w.inner }

// alias is a type of its own, though it has what a Wrong has.
type alias typing.Wrong

func (a *alias) Error() string { return "alias" }

// within has a Wrong's methods.
type within struct{ *typing.Wrong }

func someWrongs() []*typing.Wrong {
	numbers := []int{0, 1, 5, 8, 31, 64, -1, math.MaxInt, math.MinInt}
	var l []*typing.Wrong
	for _, part := range numbers {
		for _, n := range numbers {
			for _, at := range numbers {
				for _, e := range []api.Errno{api.OK, api.ErrArg, api.ErrWidth, api.ErrStack, 20, -1, math.MaxInt, math.MinInt} {
					l = append(l, &typing.Wrong{Part: part, N: n, At: at, E: e})
				}
			}
		}
	}
	return l
}

// why is what Why tells.
type why struct {
	w  typing.Wrong
	ok bool
}

func tellWhy(w typing.Wrong, ok bool) why { return why{w, ok} }

// Promise 14.2: what a Wrong is.

func TestWhy(t *testing.T) {
	for _, w := range someWrongs() {
		was := *w
		got, ok := typing.Why(w)
		is(t, why{got, ok}, why{was, true}, "Why", was)
		got.At++
		is(t, *w, was, "changed by what was told:", was)
	}
}

func TestWhyOfOthers(t *testing.T) {
	w := &typing.Wrong{Part: 5, N: 1, At: 2, E: api.ErrWidth}
	for i, err := range []error{
		nil, (*typing.Wrong)(nil), errors.New(""), errors.New("wrong 9 in 5, 1, at 2"), other{}, &other{}, (*other)(nil), wrapper{w}, &wrapper{w}, wrapper{}, errors.Join(w), (*alias)(w), within{w}, within{}, &within{w},
		&image.Flaw{Part: 5, N: 1, E: api.ErrWidth}, (*image.Flaw)(nil), &wire.Fault{E: api.ErrForm, At: 2},
	} {
		is(t, tellWhy(typing.Why(err)), why{}, "Why of another error", i)
	}
}

func TestError(t *testing.T) {
	for _, c := range []struct {
		w    *typing.Wrong
		want string
	}{
		{&typing.Wrong{Part: 5, N: 2, At: 1, E: api.ErrWidth}, "wrong 9 in 5, 2, at 1"}, {&typing.Wrong{Part: 8, N: 31, At: 64, E: api.ErrStack}, "wrong 17 in 8, 31, at 64"}, {&typing.Wrong{E: api.ErrArg}, "wrong 1 in 0, 0, at 0"}, {&typing.Wrong{}, "wrong 0 in 0, 0, at 0"},
		{&typing.Wrong{Part: -1, N: -20, At: -300, E: -3}, "wrong -3 in -1, -20, at -300"}, {&typing.Wrong{Part: 7, N: 0, At: math.MaxInt, E: 1000}, "wrong 1000 in 7, 0, at 9223372036854775807"}, {nil, ""},
	} {
		is(t, c.w.Error(), c.want, "Error of", c.w)
	}
	for _, w := range someWrongs() {
		is(t, error(w).Error(), "wrong "+strconv.Itoa(int(w.E))+" in "+strconv.Itoa(w.Part)+", "+strconv.Itoa(w.N)+", at "+strconv.Itoa(w.At), "Error of", *w)
	}
}
