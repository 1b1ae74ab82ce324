package verify_test

import (
	"errors"
	"fmt"
	"math"
	"testing"

	"shunter/api"
	"shunter/image"
	"shunter/lex"
	"shunter/typing"
	"shunter/verify"
	"shunter/wire"
)

// other is an error that looks like those that are told apart.
type other struct{ typing.Wrong }

func (o other) Error() string { return "wrong 9 in 5, 0, at 2" }

// Promise 18.1: Why.
func TestWhy(t *testing.T) {
	kind := told{e: api.ErrKind}
	flaw, wrong := &image.Flaw{Part: 3, N: 4, E: api.ErrTwice}, &typing.Wrong{Part: 5, N: 6, At: 7, E: api.ErrWidth}
	for i, c := range []struct {
		err  error
		want told
	}{
		{nil, told{}},
		{flaw, told{api.ErrTwice, 3, 4, -1}}, {&image.Flaw{}, told{at: -1}}, {&image.Flaw{Part: math.MinInt, N: math.MaxInt, E: -1}, told{-1, math.MinInt, math.MaxInt, -1}},
		{wrong, told{api.ErrWidth, 5, 6, 7}}, {&typing.Wrong{}, told{}}, {&typing.Wrong{E: api.ErrArg}, told{e: api.ErrArg}}, {&typing.Wrong{Part: math.MaxInt, N: math.MinInt, At: -3, E: 1 << 40}, told{1 << 40, math.MaxInt, math.MinInt, -3}},
		// Others, be it that they hold one, or say what one says.
		{errors.New("flaw 9 in 3, 4"), kind}, {fmt.Errorf("%w", flaw), kind}, {fmt.Errorf("%w", wrong), kind}, {errors.Join(flaw), kind}, {errors.Join(wrong, flaw), kind}, {other{*wrong}, kind}, {&other{*wrong}, kind}, {&lex.Fault{E: api.ErrForm, At: 2}, kind}, {&wire.Fault{E: api.ErrEnd, At: 2}, kind}, {(*wire.Fault)(nil), kind},
		// One that holds a nil pointer tells of nothing.
		{(*image.Flaw)(nil), told{}}, {(*typing.Wrong)(nil), told{}},
	} {
		is(t, tell(verify.Why(c.err)), c.want, "Why", i)
	}
	is(t, *flaw, image.Flaw{Part: 3, N: 4, E: api.ErrTwice}, "the flaw as it was")
	is(t, *wrong, typing.Wrong{Part: 5, N: 6, At: 7, E: api.ErrWidth}, "the wrong as it was")
}
