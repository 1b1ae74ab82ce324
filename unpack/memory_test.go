package unpack_test

import (
	"bytes"
	"reflect"
	"slices"
	"testing"
	"unsafe"

	"shunter/api"
	"shunter/ground"
	"shunter/image"
	"shunter/unpack"
	"shunter/wire"
)

// memory is where the texts and lists of something lie: from here to there. (Texts of one byte lie in a table of the language's own.)
func memory(v reflect.Value) [][2]uintptr {
	var l [][2]uintptr
	switch v.Kind() {
	case reflect.Struct:
		for i := range v.NumField() {
			l = append(l, memory(v.Field(i))...)
		}
	case reflect.Slice:
		if v.Cap() > 0 {
			l = append(l, [2]uintptr{v.Pointer(), v.Pointer() + uintptr(v.Cap())*v.Type().Elem().Size()})
		}
		for i := range v.Len() {
			l = append(l, memory(v.Index(i))...)
		}
	case reflect.String:
		if s := v.String(); len(s) > 1 {
			from := uintptr(unsafe.Pointer(unsafe.StringData(s)))
			l = append(l, [2]uintptr{from, from + uintptr(len(s))})
		}
	}
	return l
}

func apart(t *testing.T, a, b [][2]uintptr) {
	t.Helper()
	for _, x := range a {
		if slices.ContainsFunc(b, func(y [2]uintptr) bool { return x[0] < y[1] && y[0] < x[1] }) {
			t.Fatal("two things share memory")
		}
	}
}

// What is told is new memory: it shares none with the bytes, nor with another answer, nor do two of its lists.
func TestUnpackIsNewMemory(t *testing.T) {
	for _, m := range append(ground.Images(), byHand()) {
		b := ground.Roomy(packed(t, m))
		room := slices.Clone(b[:cap(b)])
		first, _ := unpack.Unpack(b)
		second, _ := unpack.Unpack(b)
		if !bytes.Equal(b[:cap(b)], room) {
			t.Fatal("Unpack wrote into its bytes")
		}
		mine := memory(reflect.ValueOf(first))
		apart(t, mine, memory(reflect.ValueOf(b)))
		apart(t, mine, memory(reflect.ValueOf(second)))
		for i := range mine {
			apart(t, mine[i:i+1], mine[i+1:])
		}
		ground.Turn(b)
		if !image.Same(first, m) || !image.Same(second, m) {
			t.Error("turned the bytes, and what was told")
		}
	}
}

func TestCodeIsNewMemory(t *testing.T) {
	b := ground.Roomy(bytesOf("03 00 0c 0abc 01 04 01 22"))
	room := slices.Clone(b[:cap(b)])
	first, _ := unpack.Code(b)
	second, _ := unpack.Code(b)
	want := []api.Ins{{V: api.Vec{W: 12, Lo: 0xabc}}, {Op: api.OpField, A: 4, B: 1}, {Op: api.OpStop}}
	if !bytes.Equal(b[:cap(b)], room) {
		t.Error("Code wrote into its bytes")
	}
	apart(t, memory(reflect.ValueOf(first)), memory(reflect.ValueOf(second)))
	ground.Turn(b)
	clear(first)
	if !slices.Equal(second, want) {
		t.Errorf("turned what was told: %v; want %v", second, want)
	}
}

// Two faults, and two flaws, are two things.
func TestErrorsAreNew(t *testing.T) {
	flawed, _ := leastWith(4, []byte{0})
	much := make([]byte, 65536)
	for _, b := range [][]byte{nil, much, flawed} {
		first, second := errorOf(b), errorOf(b)
		if first == second {
			t.Errorf("two errors are one: %v", first)
		}
	}
	for _, b := range [][]byte{nil, much} {
		_, first := unpack.Code(b)
		_, second := unpack.Code(b)
		f := wire.Only(first)
		*f = wire.Fault{}
		if e, _, inBytes := unpack.Why(second); e == api.OK || !inBytes {
			t.Errorf("changed one error, and the other: %v", second)
		}
	}
}

// An answer is the same each time, and at several places at one time.
func TestUnpackTheSameEachTime(t *testing.T) {
	b := packed(t, ground.Image())
	done := make(chan api.Image)
	for range 8 {
		go func() {
			m, _ := unpack.Unpack(b)
			done <- m
		}()
	}
	for range 8 {
		if m := <-done; !image.Same(m, ground.Image()) {
			t.Errorf("Unpack = %v", m)
		}
	}
}
