package image_test

import (
	"reflect"
	"slices"
	"testing"
	"unsafe"

	"shunter/api"
	"shunter/image"
)

// whole has something in each list, however deep.
func whole() api.Image {
	m := right()
	m.Ingress[0].Args = []api.Vec{{}}
	m.Egress[0].Code = []api.Ins{{}}
	return m
}

// same tells it without the package's help; lists that are empty and nil are one.
func same(a, b reflect.Value) bool {
	switch a.Kind() {
	case reflect.Struct:
		for i := range a.NumField() {
			if !same(a.Field(i), b.Field(i)) {
				return false
			}
		}
		return true
	case reflect.Slice:
		if a.Len() != b.Len() {
			return false
		}
		for i := range a.Len() {
			if !same(a.Index(i), b.Index(i)) {
				return false
			}
		}
		return true
	}
	return a.Interface() == b.Interface()
}

// Promise 10.3: whatever differs, two images aren't the same.
func TestSame(t *testing.T) {
	all := images()
	for _, a := range all {
		for _, b := range all {
			is(t, image.Same(a, b), same(reflect.ValueOf(a), reflect.ValueOf(b)), "Same", a, b)
		}
	}
	is(t, image.Same(whole(), whole()), true, "Same of what was made twice")
	m := whole()
	for _, at := range leaves(reflect.ValueOf(&m).Elem(), func(m reflect.Value) reflect.Value { return m }) {
		for _, to := range changes(at(reflect.ValueOf(&m).Elem())) {
			changed := whole()
			at(reflect.ValueOf(&changed).Elem()).Set(to)
			want := same(reflect.ValueOf(m), reflect.ValueOf(changed))
			if image.Same(m, changed) != want || image.Same(changed, m) != want {
				t.Fatalf("Same of %v and %v isn't %t", m, changed, want)
			}
		}
	}
}

func TestSameEdges(t *testing.T) {
	changed := func(in func(m *api.Image)) api.Image {
		m := whole()
		in(&m)
		return m
	}
	for i, m := range []api.Image{
		changed(func(m *api.Image) { m.Name = "RIGHT.one" }), // alike isn't the same
		changed(func(m *api.Image) { m.Insts[0].Name = "ETH" }),
		changed(func(m *api.Image) { m.Deparse[0], m.Deparse[1] = m.Deparse[1], m.Deparse[0] }),
		changed(func(m *api.Image) { m.Ingress, m.Egress = m.Egress, m.Ingress }),
		changed(func(m *api.Image) { m.Checks, m.Updates = m.Updates, m.Checks }),
		changed(func(m *api.Image) { m.States[2].Cases[0].Mask.Hi = 0 }),
	} {
		is(t, image.Same(m, whole()), false, "Same of what differs", i)
		is(t, image.Same(m, image.Copy(m)), true, "Same of a copy", i)
	}
	empty := api.Image{Headers: []api.Header{}, Insts: []api.Inst{}, Metas: []api.Field{}, States: []api.State{}, Actions: []api.Action{}, Tables: []api.Table{}, Ingress: []api.Node{}, Egress: []api.Node{}, Deparse: []int{}, Checks: []api.Sum{}, Updates: []api.Sum{}, Regs: []api.Reg{}, Counters: []api.Counter{}, Meters: []api.Meter{}}
	is(t, image.Same(api.Image{}, empty), true, "Same of nil and empty")
	is(t, image.Same(empty, api.Image{}), true, "Same of empty and nil")
	one := api.Image{Headers: []api.Header{{Fields: []api.Field{}}}, States: []api.State{{Exts: []api.Ext{}, Keys: []api.Key{}, Cases: []api.Case{}}}, Actions: []api.Action{{Params: []int{}, Code: []api.Ins{}}}, Tables: []api.Table{{Keys: []api.Key{}, Actions: []int{}, Default: api.Call{Args: []api.Vec{}}}}, Ingress: []api.Node{{Code: []api.Ins{}, Args: []api.Vec{}}}}
	is(t, image.Same(one, api.Image{Headers: make([]api.Header, 1), States: make([]api.State, 1), Actions: make([]api.Action, 1), Tables: make([]api.Table, 1), Ingress: make([]api.Node, 1)}), true, "Same of nil and empty within")
}

// memory is where an image's texts and lists lie: from here to there.
func memory(v reflect.Value) [][2]uintptr {
	var l [][2]uintptr
	switch v.Kind() {
	case reflect.Struct:
		for i := range v.NumField() {
			l = append(l, memory(v.Field(i))...)
		}
	case reflect.Slice:
		if v.Cap() > 0 {
			l = append(l, [2]uintptr{v.Pointer(), v.Pointer() + uintptr(v.Cap())*v.Type().Elem().Size()})
		}
		for i := range v.Len() {
			l = append(l, memory(v.Index(i))...)
		}
	case reflect.String:
		if s := v.String(); s != "" {
			from := uintptr(unsafe.Pointer(unsafe.StringData(s)))
			l = append(l, [2]uintptr{from, from + uintptr(len(s))})
		}
	}
	return l
}

// Promises 10.3 and 10.4: a copy is the same, and shares no memory with the image, nor with another copy, nor do two of its lists.
func TestCopy(t *testing.T) {
	for _, m := range append(images(), whole()) {
		kept := reflect.ValueOf(m)
		first, second := image.Copy(m), image.Copy(m)
		is(t, same(reflect.ValueOf(first), kept), true, "Copy", m)
		is(t, same(reflect.ValueOf(second), kept), true, "Copy", m)
		is(t, image.Same(first, m) && image.Same(m, second) && image.Same(first, second), true, "Same of a copy", m)
		apart(t, memory(reflect.ValueOf(first)), memory(reflect.ValueOf(m)))
		apart(t, memory(reflect.ValueOf(first)), memory(reflect.ValueOf(second)))
		mine := memory(reflect.ValueOf(first))
		for i := range mine {
			apart(t, mine[i:i+1], mine[i+1:])
		}
	}
}

func apart(t *testing.T, a, b [][2]uintptr) {
	t.Helper()
	for _, x := range a {
		if slices.ContainsFunc(b, func(y [2]uintptr) bool { return x[0] < y[1] && y[0] < x[1] }) {
			t.Fatal("two things share memory")
		}
	}
}

// Promise 10.4: what is written into a copy doesn't touch the image, nor the other way round.
func TestCopyIsTouchedByNothing(t *testing.T) {
	m := whole()
	for _, at := range leaves(reflect.ValueOf(&m).Elem(), func(m reflect.Value) reflect.Value { return m }) {
		l := changes(at(reflect.ValueOf(&m).Elem()))
		to := l[len(l)-1]
		copied := image.Copy(m)
		at(reflect.ValueOf(&copied).Elem()).Set(to)
		is(t, same(reflect.ValueOf(m), reflect.ValueOf(whole())), true, "wrote into a copy:", m)
		changed := whole()
		copied = image.Copy(changed)
		at(reflect.ValueOf(&changed).Elem()).Set(to)
		is(t, same(reflect.ValueOf(copied), reflect.ValueOf(whole())), true, "wrote into the image:", copied)
	}
}
