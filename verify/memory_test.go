package verify_test

import (
	"reflect"
	"testing"

	"shunter/api"
	"shunter/ground"
	"shunter/image"
	"shunter/typing"
	"shunter/verify"
)

// turn writes over all that a value holds, and over the room behind its lists, so that a test sees who shares it.
func turn(v reflect.Value) {
	switch v.Kind() {
	case reflect.Struct:
		for i := range v.NumField() {
			turn(v.Field(i))
		}
	case reflect.Slice:
		v = v.Slice(0, v.Cap())
		for i := range v.Len() {
			turn(v.Index(i))
		}
	case reflect.String:
		v.SetString("turned")
	case reflect.Bool:
		v.SetBool(!v.Bool())
	case reflect.Uint64:
		v.SetUint(^v.Uint())
	default:
		v.SetInt(^v.Int())
	}
}

func turned[T any](x T) T {
	turn(reflect.ValueOf(&x).Elem())
	return x
}

func TestTurn(t *testing.T) {
	x := ground.Right()
	if turned(x); image.Check(x) == nil || x.States[0].Cases[1].Next != ^2 || x.Egress[5].Args[7].W != ^8 || x.Actions[5].Params[0] != ^16 {
		t.Error("not turned:", x)
	}
}

// What is handed in is neither changed nor kept, and what is told is new memory.
func TestMemory(t *testing.T) {
	m := ground.Right()
	p, err := verify.Verify(m)
	if err != nil {
		t.Fatal(err)
	}
	is(t, m, ground.Right(), "the image as it was")
	want, _ := model(ground.Right())
	turned(m)
	is(t, all(p), want, "what was handed in was turned")
	first, second := all(p), all(p)
	for _, f := range []func(){
		func() { turned(first.m) }, func() { turned(first.parser) }, func() { turned(first.ingress) }, func() { turned(first.egress) },
	} {
		f()
		is(t, all(p), want, "what was answered was turned")
		is(t, second, want, "what was answered was turned, and what else was")
	}
	q, _ := verify.Verify(ground.Right())
	is(t, all(q), want, "another proof")
	is(t, all(p), want, "the proof behind another one")
}

func TestErrorsAreNew(t *testing.T) {
	for i, m := range []api.Image{{}, ground.Image(), least(func(m *api.Image) { m.Egress = nodes(do(1, 1)) })} {
		_, one := verify.Verify(m)
		_, other := verify.Verify(m)
		if one == other {
			t.Error("one error twice:", i)
		}
		before := tell(verify.Why(other))
		switch x := one.(type) {
		case *image.Flaw:
			*x = image.Flaw{}
		case *typing.Wrong:
			*x = typing.Wrong{}
		}
		is(t, tell(verify.Why(other)), before, i)
	}
}

// An image that isn't right changes nothing of what a later call tells.
func TestNothingIsKept(t *testing.T) {
	want, _ := model(ground.Right())
	for _, in := range ground.Flaws() {
		verify.Verify(ground.Changed(in))
		verify.Verify(ground.Image())
		got, e := ask(t, ground.Right())
		is(t, e, told{})
		is(t, got, want)
	}
}
