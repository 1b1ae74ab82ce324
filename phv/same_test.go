package phv_test

import (
	"bytes"
	"reflect"
	"slices"
	"testing"
	"unsafe"

	"shunter/api"
	"shunter/ground"
	"shunter/phv"
)

// full has something in each list.
func full(t *testing.T) *phv.Phv {
	t.Helper()
	p := made(t)
	for slot, s := range []string{"010203040506 112233445566 0800", "6abc 0800", "7abc 0801", "8abc 0802", "47 01 0203 0102030405060708", "01 0203 04 00112233445566778899aabbccddeeff 0506", "46 ff eedd 0a0b0c0d"} {
		if _, e := p.Take(slot, bytesOf(s)); e != api.OK {
			t.Fatal("Take:", slot, e)
		}
	}
	p.Hide(3)
	p.Another(1)
	p.Another(1)
	p.Begin(3, 100, 2)
	p.PutMeta(9, wide())
	return p
}

// changes change each thing that a packet's headers have, and nothing's width.
func changes() []func(p *phv.Phv) {
	l := []func(p *phv.Phv){
		func(p *phv.Phv) { p.Begin(4, 100, 2) },
		func(p *phv.Phv) { p.Begin(3, 101, 2) },
		func(p *phv.Phv) { p.Begin(3, 100, 3) },
		func(p *phv.Phv) { p.Another(1) },
		func(p *phv.Phv) { p.Another(3) },
		func(p *phv.Phv) { p.Show(3) },
		func(p *phv.Phv) { p.Push(1, 1) },
		func(p *phv.Phv) { p.Pop(1, 1) },
		func(p *phv.Phv) { p.Take(4, bytesOf("46 01 0203 0102030405060708")) },
		func(p *phv.Phv) { p.Take(4, bytesOf("47 01 0203 0102030405060709")) },
		func(p *phv.Phv) { p.Take(6, bytesOf("46 ff eedd 0a0b0c0c")) },
		func(p *phv.Phv) { p.PutMeta(9, api.Vec{W: 128, Hi: 1<<64 - 2, Lo: 1<<64 - 1}) },
		func(p *phv.Phv) { p.PutMeta(9, api.Vec{W: 128, Hi: 1<<64 - 1, Lo: 1<<64 - 2}) },
		func(p *phv.Phv) { p.PutMeta(10, vecOf(1, 1)) },
		func(p *phv.Phv) { p.Vars[4][7] = 0 },
		func(p *phv.Phv) { p.Next[4]++ },
	}
	for slot := range 7 {
		if slot != 3 {
			l = append(l, func(p *phv.Phv) { p.Hide(slot) })
		}
		if slot == 3 {
			continue
		}
		for f := range 3 {
			l = append(l, func(p *phv.Phv) {
				v, _ := p.Get(slot, f)
				v.Lo ^= 1
				p.Put(slot, f, v)
			})
		}
	}
	return l
}

// Promise 13.4: Same.

func TestSame(t *testing.T) {
	for i, in := range changes() {
		p := full(t)
		in(p)
		is(t, phv.Same(p, p), true, "Same of itself", i)
		is(t, phv.Same(p, full(t)), false, "Same of what changed", i)
		is(t, phv.Same(full(t), p), false, "Same of what changed", i)
		is(t, phv.Like(p, full(t)), true, "Like of what changed", i)
		for j, other := range changes() {
			q := full(t)
			other(q)
			is(t, phv.Same(p, q), i == j, "Same", i, j)
		}
	}
	is(t, phv.Same(full(t), full(t)), true, "Same of what was made twice")
	is(t, phv.Same(nil, nil), true, "Same of nil and nil")
	is(t, phv.Same(nil, made(t)), false, "Same of nil")
	is(t, phv.Same(made(t), nil), false, "Same of nil")
}

// What was taken and has nothing that varies is the same as what was shown; images of unlike names have the same packets.
func TestSameEdges(t *testing.T) {
	p, q := made(t), made(t)
	p.Take(4, bytesOf("05 00 0000"))
	q.Show(4)
	q.Put(4, 1, vecOf(4, 5))
	is(t, phv.Same(p, q), true, "Same of what was taken, and shown")
	m := ground.Changed(func(m *api.Image) {
		m.Name, m.Headers[0].Name, m.Headers[0].Fields[1].Name, m.Insts[0].Name, m.Metas[0].Name = "other", "other", "other", "other", "other"
	})
	is(t, phv.Same(made(t), phv.New(m)), true, "Same of unlike names")
	is(t, phv.Like(made(t), phv.New(m)), true, "Like of unlike names")
	is(t, phv.Same(phv.New(ground.LeastImage()), phv.New(ground.LeastImage())), true, "Same of the least")
}

// Promise 13.4: Like.

func TestLike(t *testing.T) {
	all := append(ground.Images(), stacked())
	for i, a := range all {
		for j, b := range all {
			x, y := modelOf(a), modelOf(b)
			same := len(x.next) == len(y.next) && slices.EqualFunc(x.metas, y.metas, asWide) && slices.EqualFunc(x.places, y.places, func(a, b place) bool { return slices.EqualFunc(a.fields, b.fields, asWide) })
			is(t, phv.Like(phv.New(a), phv.New(b)), same, "Like", i, j)
			is(t, phv.Same(phv.New(a), phv.New(b)), same, "Same at first", i, j)
		}
		is(t, phv.Like(phv.New(a), nil), false, "Like of nil", i)
		is(t, phv.Like(nil, phv.New(a)), false, "Like of nil", i)
	}
	is(t, phv.Like(nil, nil), false, "Like of nil and nil")
}

func asWide(a, b string) bool { return len(a) == len(b) }

// shaped has a header of these widths for each list, with an instance of it.
func shaped(metas []int, headers ...[]int) api.Image {
	m := ground.LeastImage()
	names := func(l []int) []api.Field {
		fields := ground.Several(api.Field{}, len(l), func(x *api.Field, s string) { x.Name = s })
		for i, w := range l {
			fields[i].W = w
		}
		return fields
	}
	m.Metas = names(metas)
	for i, l := range headers {
		s := string(rune('a' + i))
		m.Headers = append(m.Headers, api.Header{Name: s, Fields: names(l)})
		m.Insts = append(m.Insts, api.Inst{Name: s, Header: i})
	}
	return m
}

func TestLikeByHand(t *testing.T) {
	base := shaped([]int{5, 6}, []int{8, 16}, []int{32})
	with := func(in func(m *api.Image)) api.Image {
		m := shaped([]int{5, 6}, []int{8, 16}, []int{32})
		in(&m)
		return m
	}
	for i, c := range []struct {
		m    api.Image
		want bool
	}{
		{base, true},
		{shaped([]int{5, 7}, []int{8, 16}, []int{32}), false}, {shaped([]int{6, 5}, []int{8, 16}, []int{32}), false}, {shaped([]int{5}, []int{8, 16}, []int{32}), false}, {shaped([]int{5, 6, 1}, []int{8, 16}, []int{32}), false},
		{shaped([]int{5, 6}, []int{16, 8}, []int{32}), false}, {shaped([]int{5, 6}, []int{8, 16}, []int{24}), false}, {shaped([]int{5, 6}, []int{8}, []int{16, 32}), false}, {shaped([]int{5, 6}, []int{32}, []int{8, 16}), false}, {shaped([]int{5, 6}, []int{8, 16}), false}, {shaped([]int{5, 6}, []int{8, 16}, []int{32}, []int{32}), false}, {shaped([]int{5, 6}, []int{8, 16}, []int{32, 8}), false}, {shaped([]int{5, 6}), false},
		// What isn't a width, or a number of things, isn't asked.
		{with(func(m *api.Image) { m.Insts[1].Depth = 1 }), true}, {with(func(m *api.Image) { m.Insts[0].Depth = 1 }), true}, {with(func(m *api.Image) { m.Headers[0].Var, m.Headers[0].Mul = 5, 1 }), true}, {with(func(m *api.Image) { m.Ports, m.Rounds = 8, 3 }), true},
		{with(func(m *api.Image) { m.Insts[1].Depth = 2 }), false}, {with(func(m *api.Image) { m.Insts[0].Depth = 2 }), false},
	} {
		is(t, phv.Like(phv.New(base), phv.New(c.m)), c.want, "Like", i)
		is(t, phv.Like(phv.New(c.m), phv.New(base)), c.want, "Like", i)
	}
	// As many slots, of the same widths, but not as many instances.
	one, two := shaped(nil, []int{8}), shaped(nil, []int{8}, []int{8})
	one.Insts[0].Depth = 2
	is(t, phv.Like(phv.New(one), phv.New(two)), false, "Like")
	is(t, phv.Same(phv.New(one), phv.New(two)), false, "Same")
	// As many instances and slots, in another order.
	three, four := shaped(nil, []int{8}, []int{8}), shaped(nil, []int{8}, []int{8})
	three.Insts[0].Depth, four.Insts[1].Depth = 2, 2
	is(t, phv.Like(phv.New(three), phv.New(four)), true, "Like")
}

// memory is where the texts and lists of something lie: from here to there. (Texts of one byte lie in a table of the language's own.)
func memory(v reflect.Value) [][2]uintptr {
	var l [][2]uintptr
	switch v.Kind() {
	case reflect.Struct:
		for i := range v.NumField() {
			l = append(l, memory(v.Field(i))...)
		}
	case reflect.Slice:
		if v.Cap() > 0 {
			l = append(l, [2]uintptr{v.Pointer(), v.Pointer() + uintptr(v.Cap())*v.Type().Elem().Size()})
		}
		for i := range v.Len() {
			l = append(l, memory(v.Index(i))...)
		}
	case reflect.String:
		if s := v.String(); len(s) > 1 {
			from := uintptr(unsafe.Pointer(unsafe.StringData(s)))
			l = append(l, [2]uintptr{from, from + uintptr(len(s))})
		}
	}
	return l
}

func memoryOf(x any) [][2]uintptr { return memory(reflect.ValueOf(x)) }

func apart(t *testing.T, a, b [][2]uintptr) {
	t.Helper()
	for _, x := range a {
		if slices.ContainsFunc(b, func(y [2]uintptr) bool { return x[0] < y[1] && y[0] < x[1] }) {
			t.Fatal("two things share memory")
		}
	}
}

// alone asks that no two lists of a packet's headers share memory.
func alone(t *testing.T, p *phv.Phv) {
	t.Helper()
	mine := memoryOf(*p)
	for i := range mine {
		apart(t, mine[i:i+1], mine[i+1:])
	}
}

// Promise 13.4: a copy is the same, and shares no memory.
func TestCopy(t *testing.T) {
	for i, m := range append(ground.Images(), stacked()) {
		w := &walker{uint64(i), phv.New(m), modelOf(m)}
		for range 40 {
			for range 10 {
				w.step()
			}
			first, second := w.p.Copy(), w.p.Copy()
			is(t, phv.Same(first, w.p) && phv.Same(w.p, second) && phv.Like(first, second), true, "a copy", i)
			stands(t, first, w.m, "a copy", i)
			apart(t, memoryOf(*first), memoryOf(*w.p))
			apart(t, memoryOf(*first), memoryOf(*second))
			alone(t, first)
			alone(t, w.p)
		}
	}
}

// What is done to a copy doesn't touch what it was made of, nor the other way round; and a copy goes on as that would.
func TestCopyGoesOnAlone(t *testing.T) {
	for i, in := range changes() {
		p := full(t)
		c := p.Copy()
		in(c)
		is(t, phv.Same(p, full(t)), true, "changed a copy", i)
		in(p)
		is(t, phv.Same(p, c), true, "changed both", i)
		c = full(t)
		kept := c.Copy()
		in(c)
		is(t, phv.Same(kept, full(t)), true, "changed what was copied", i)
	}
	for i, m := range append(ground.Images(), stacked()) {
		w := &walker{uint64(100 + i), phv.New(m), modelOf(m)}
		for range 1000 {
			old := w.p
			w.p = w.p.Copy()
			call, got, want := w.step()
			is(t, got, want, i, call)
			stands(t, w.p, w.m, i, call)
			spoil(old)
		}
	}
}

// spoil writes over all that a packet's headers have.
func spoil(p *phv.Phv) {
	clear(p.Valid)
	clear(p.Next)
	clear(p.Metas)
	for _, l := range p.Fields {
		clear(l)
	}
	for _, b := range p.Vars {
		ground.Turn(b)
	}
	clear(p.Fields)
	clear(p.Vars)
}

// The image, and its lists, aren't kept.
func TestNewKeepsNothing(t *testing.T) {
	m, kept := stacked(), modelOf(stacked())
	first, second := phv.New(m), phv.New(m)
	apart(t, memoryOf(*first), memoryOf(m))
	apart(t, memoryOf(*first), memoryOf(*second))
	is(t, reflect.DeepEqual(m, stacked()), true, "New changed the image")
	for i := range m.Headers {
		m.Headers[i].Fields[0].W, m.Headers[i].Var, m.Headers[i].Mul = 99, 3, 5
	}
	clear(m.Headers)
	clear(m.Insts)
	w := &walker{7, first, kept}
	for range 1000 {
		call, got, want := w.step()
		is(t, got, want, call)
		stands(t, first, kept, call)
	}
}

// Bytes that are handed in are neither changed nor kept, and what is told is new.
func TestBytesAreNewMemory(t *testing.T) {
	p := full(t)
	ip := bytesOf("47 01 0203 0102030405060708")
	b := ground.Roomy(ip)
	room := slices.Clone(b[:cap(b)])
	if n, e := p.Take(4, b); n != 12 || e != api.OK {
		t.Fatal("Take:", n, e)
	}
	is(t, b[:cap(b)], room, "Take wrote into its bytes")
	apart(t, memoryOf(*p), memoryOf(b))
	ground.Turn(b)
	first, _ := p.Bytes(4)
	second, _ := p.Bytes(4)
	is(t, bytes.Equal(first, ip), true, "Bytes behind a turn of what was taken")
	apart(t, memoryOf(first), memoryOf(second))
	apart(t, memoryOf(first), memoryOf(*p))
	ground.Turn(first)
	third, _ := p.Bytes(4)
	is(t, bytes.Equal(second, ip) && bytes.Equal(third, ip), true, "Bytes behind a turn of what was told")
}

// What one packet's headers go through doesn't touch those of another one of its image.
func TestTwoOfOneImage(t *testing.T) {
	m := ground.Image()
	p, q := phv.New(m), phv.New(m)
	for _, in := range changes()[:14] {
		in(p)
		is(t, phv.Same(q, made(t)), true, "changed another one")
	}
}
