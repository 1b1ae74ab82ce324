package typing_test

import (
	"reflect"
	"slices"
	"testing"
	"unsafe"

	"shunter/api"
	"shunter/image"
	"shunter/typing"
)

// memory is where the texts and lists of something lie: from here to there. (Texts of one byte lie in a table of the language's own.)
func memory(v reflect.Value) [][2]uintptr {
	var l [][2]uintptr
	switch v.Kind() {
	case reflect.Struct:
		for i := range v.NumField() {
			l = append(l, memory(v.Field(i))...)
		}
	case reflect.Slice:
		if v.Cap() > 0 {
			l = append(l, [2]uintptr{v.Pointer(), v.Pointer() + uintptr(v.Cap())*v.Type().Elem().Size()})
		}
		for i := range v.Len() {
			l = append(l, memory(v.Index(i))...)
		}
	case reflect.String:
		if s := v.String(); len(s) > 1 {
			from := uintptr(unsafe.Pointer(unsafe.StringData(s)))
			l = append(l, [2]uintptr{from, from + uintptr(len(s))})
		}
	}
	return l
}

func memoryOf(x any) [][2]uintptr { return memory(reflect.ValueOf(x)) }

func apart(t *testing.T, a, b [][2]uintptr) {
	t.Helper()
	for _, x := range a {
		if slices.ContainsFunc(b, func(y [2]uintptr) bool { return x[0] < y[1] && y[0] < x[1] }) {
			t.Fatal("two things share memory")
		}
	}
}

// What is handed in is neither changed nor kept, and what is told is new memory.
func TestCodeIsNewMemory(t *testing.T) {
	m, kept := fitting(), fitting()
	params, want := []int{8, 16, 77}[:2], []int{8, 8, 77}[:2]
	l := append(of(op(api.OpParam), op(api.OpJumpGone, 0, 4), op(api.OpNot), op(api.OpJump, 4), op(api.OpMeta, 1)), push(77))[:5]
	first, _, _ := typing.Code(m, params, l, want)
	second, _, _ := typing.Code(m, params, l, want)
	is(t, first, [][]int{{}, {8}, {8}, {8}, {8}, {8, 8}}, "Code")
	is(t, second, first, "Code again")
	for i, a := range [][][2]uintptr{memoryOf(first), memoryOf(second)} {
		for j := range a {
			apart(t, a[j:j+1], a[j+1:])
		}
		for _, x := range []any{m, params, l, want} {
			apart(t, a, memoryOf(x))
		}
		if i == 0 {
			apart(t, a, memoryOf(second))
		}
	}
	for _, k := range first {
		k = k[:cap(k)]
		for i := range k {
			k[i] = -1
		}
	}
	third, _, _ := typing.Code(m, params, l, want)
	is(t, third, second, "Code behind writing into what it told")
	is(t, reflect.DeepEqual(m, kept) && image.Same(m, kept), true, "the image as it was")
	is(t, params[:3], []int{8, 16, 77}, "the parameters as they were")
	is(t, want[:3], []int{8, 8, 77}, "what was wanted as it was")
	is(t, l[:6], append(of(op(api.OpParam), op(api.OpJumpGone, 0, 4), op(api.OpNot), op(api.OpJump, 4), op(api.OpMeta, 1)), push(77)), "the code as it was")
	clear(l)
	clear(params)
	clear(want)
	clear(m.Actions)
	is(t, second, third, "what was told, behind writing into what was handed in")
}

func TestCheckIsNewMemory(t *testing.T) {
	m := fittingWith(func(m *api.Image) { m.Actions[0].Code = of(push(3)) })
	first, second := typing.Check(m), typing.Check(m)
	*first.(*typing.Wrong) = typing.Wrong{Part: 1, N: 1, At: 1, E: api.ErrKind}
	is(t, *second.(*typing.Wrong), typing.Wrong{Part: 5, N: 0, At: 1, E: api.ErrStack}, "the second one")
	is(t, checked(t, m), typing.Wrong{Part: 5, N: 0, At: 1, E: api.ErrStack}, "a third one")
	is(t, reflect.DeepEqual(m, fittingWith(func(m *api.Image) { m.Actions[0].Code = of(push(3)) })), true, "the image as it was")
}
