package pack_test

import (
	"bytes"
	"math/big"
	"slices"
	"strconv"
	"testing"

	"shunter/api"
	"shunter/code"
	"shunter/ground"
	"shunter/image"
)

// The model goes the other way: it reads bytes as the chapter tells an image's, so that an image that is read again as it was had bytes of the right form, with all of it in them.

// source is bytes that are read from the front; what isn't an image's ends it by a panic.
type source struct {
	b []byte
}

func (s *source) must(so bool) {
	if !so {
		panic("no image's bytes")
	}
}

func (s *source) take(count int) []byte {
	s.must(count <= len(s.b))
	b := s.b[:count]
	s.b = s.b[count:]
	return b
}

func (s *source) number(count int) int {
	return int(new(big.Int).SetBytes(s.take(count)).Int64())
}

func (s *source) name() string {
	return string(s.take(s.number(1)))
}

func (s *source) row() api.Vec {
	w := s.number(1)
	s.must(1 <= w && w <= 128)
	n := new(big.Int).SetBytes(s.take((w + 7) / 8))
	s.must(n.BitLen() <= w)
	hi := new(big.Int).Rsh(n, 64)
	return api.Vec{W: w, Hi: hi.Uint64(), Lo: n.Sub(n, new(big.Int).Lsh(hi, 64)).Uint64()}
}

func listOf[T any](s *source, one func() T) []T {
	var l []T
	for range s.number(1) {
		l = append(l, one())
	}
	return l
}

func (s *source) numbers() []int { return listOf(s, func() int { return s.number(1) }) }

func (s *source) rows() []api.Vec { return listOf(s, s.row) }

func (s *source) field() api.Field { return api.Field{Name: s.name(), W: s.number(1)} }

func (s *source) header() api.Header {
	return api.Header{Name: s.name(), Fields: listOf(s, s.field), Var: s.number(1), By: s.number(1), Mul: s.number(1), Sub: s.number(2)}
}

func (s *source) inst() api.Inst {
	return api.Inst{Name: s.name(), Header: s.number(1), Depth: s.number(1)}
}

func (s *source) next() int {
	n := s.number(1)
	switch n {
	case 255:
		return api.Accept
	case 254:
		return api.Reject
	}
	return n
}

func (s *source) ext() api.Ext { return api.Ext{Kind: api.ExtKind(s.number(1)), N: s.number(1)} }

func (s *source) key() []api.Key {
	return listOf(s, func() api.Key { return api.Key{Kind: api.KeyKind(s.number(1)), A: s.number(2), B: s.number(1)} })
}

func (s *source) caseOf() api.Case {
	return api.Case{Value: s.row(), Mask: s.row(), Next: s.next()}
}

func (s *source) state() api.State {
	return api.State{Name: s.name(), Exts: listOf(s, s.ext), Keys: s.key(), Cases: listOf(s, s.caseOf), Next: s.next()}
}

// names is which of V, A and B an operation names, by its name in layer 9's table.
func names(o api.Op) string {
	switch code.Name(o) {
	case "push":
		return "V"
	case "field", "put-field", "slice", "push-head", "pop-head", "jump-gone":
		return "AB"
	case "meta", "put-meta", "param", "valid", "show", "hide", "reg", "put-reg", "shl", "shr", "cast", "count", "meter", "jump", "jump-zero":
		return "A"
	}
	return ""
}

func (s *source) ins() api.Ins {
	x := api.Ins{Op: api.Op(s.number(1))}
	for _, r := range names(x.Op) {
		switch r {
		case 'V':
			x.V = s.row()
		case 'A':
			x.A = s.number(1)
		case 'B':
			x.B = s.number(1)
		}
	}
	return x
}

func (s *source) action() api.Action {
	return api.Action{Name: s.name(), Params: s.numbers(), Code: listOf(s, s.ins)}
}

func (s *source) table() api.Table {
	return api.Table{Name: s.name(), Kind: api.TabKind(s.number(1)), Keys: s.key(), Actions: s.numbers(), Default: api.Call{Action: s.number(1), Args: s.rows()}, Size: s.number(2)}
}

func (s *source) node() api.Node {
	switch kind := api.NodeKind(s.number(1)); kind {
	case api.NodeIf:
		return api.Node{Kind: kind, Code: listOf(s, s.ins), Yes: s.number(1), No: s.number(1)}
	case api.NodeDo:
		return api.Node{Kind: kind, A: s.number(1), Args: s.rows(), Yes: s.number(1)}
	case api.NodeApply, api.NodeValid:
		return api.Node{Kind: kind, A: s.number(1), Yes: s.number(1), No: s.number(1)}
	}
	panic("no node")
}

func (s *source) sum() api.Sum { return api.Sum{Slot: s.number(1), Field: s.number(1)} }

func (s *source) image() api.Image {
	m := api.Image{}
	s.must(string(s.take(5)) == "SHNT\x01")
	for part, read := range []func(s *source){
		func(s *source) { m.Name, m.Ports, m.Depth, m.Rounds = s.name(), s.number(1), s.number(1), s.number(1) },
		func(s *source) { m.Headers = listOf(s, s.header) },
		func(s *source) { m.Insts = listOf(s, s.inst) },
		func(s *source) { m.Metas = listOf(s, s.field) },
		func(s *source) { m.States = listOf(s, s.state) },
		func(s *source) { m.Actions = listOf(s, s.action) },
		func(s *source) { m.Tables = listOf(s, s.table) },
		func(s *source) { m.Ingress = listOf(s, s.node) },
		func(s *source) { m.Egress = listOf(s, s.node) },
		func(s *source) { m.Deparse = s.numbers() },
		func(s *source) { m.Checks = listOf(s, s.sum) },
		func(s *source) { m.Updates = listOf(s, s.sum) },
		func(s *source) {
			m.Regs = listOf(s, func() api.Reg { return api.Reg{Name: s.name(), W: s.number(1), Log: s.number(1)} })
		},
		func(s *source) {
			m.Counters = listOf(s, func() api.Counter { return api.Counter{Name: s.name(), Log: s.number(1)} })
		},
		func(s *source) {
			m.Meters = listOf(s, func() api.Meter {
				return api.Meter{Name: s.name(), Log: s.number(1), Rate: s.number(2), Burst: s.number(4)}
			})
		},
	} {
		s.must(s.number(1) == part)
		section := &source{s.take(s.number(4))}
		read(section)
		s.must(len(section.b) == 0)
	}
	s.must(len(s.b) == 0)
	return m
}

// imageOf is the image without a flaw whose bytes they are.
func imageOf(b []byte) (m api.Image, ok bool) {
	defer func() {
		if r := recover(); r != nil {
			m, ok = api.Image{}, false
		}
	}()
	m = (&source{slices.Clone(b)}).image()
	return m, image.Check(m) == nil
}

// Images without a flaw.

func rowOf(w int, lo uint64) api.Vec { return api.Vec{W: w, Lo: lo} }

func changed(in func(m *api.Image)) api.Image {
	m := ground.Image()
	in(&m)
	return m
}

// several are n things with names of their own.
func several[T any](x T, n int, put func(x *T, s string)) []T {
	l := make([]T, n)
	for i := range l {
		l[i] = x
		put(&l[i], "name-"+strconv.Itoa(i))
	}
	return l
}

// edges have the greatest numbers, the longest names and the most things that there may be.
func edges() []api.Image {
	long := string(bytes.Repeat([]byte("ӿ"), 24))
	return []api.Image{
		ground.LeastImage(),
		ground.Image(),
		changed(func(m *api.Image) { m.Name = long }),
		changed(func(m *api.Image) { m.Headers[3].Fields[0].Name, m.Insts[4].Name, m.Metas[2].Name = long, long, long }),
		changed(func(m *api.Image) { m.States[3].Name, m.Actions[8].Name, m.Tables[3].Name = long, long, long }),
		changed(func(m *api.Image) { m.Regs[1].Name, m.Counters[2].Name, m.Meters[1].Name = long, long, long }),
		changed(func(m *api.Image) {
			h := &m.Headers[2]
			h.Var, h.By, h.Mul, h.Sub = 64, 3, 64, 4096
		}),
		changed(func(m *api.Image) {
			fields := several(api.Field{W: 8}, 16, func(x *api.Field, s string) { x.Name = s })
			fields[15].W = 128
			m.Headers = append(m.Headers, several(api.Header{Fields: fields, Var: 1, By: 14, Mul: 1}, 12, func(x *api.Header, s string) { x.Name = s })...)
			m.Insts = append(m.Insts, several(api.Inst{Header: 15, Depth: 4}, 6, func(x *api.Inst, s string) { x.Name = s })...)
			m.Insts = append(m.Insts, api.Inst{Name: "last", Header: 14})
			m.Deparse = nil
			for i := range 32 {
				m.Deparse = append(m.Deparse, 31-i)
			}
			m.Tables[0].Keys = []api.Key{{Kind: api.KeyField, A: 30, B: 15}}
			m.States[0].Exts = []api.Ext{{Kind: api.ExtOne, N: 31}, {Kind: api.ExtNext, N: 10}, {Kind: api.ExtSkip, N: 64}, {Kind: api.ExtSkip, N: 1}}
			m.Egress[0].A = 31
		}),
		changed(func(m *api.Image) {
			m.States = append(m.States, several(api.State{Next: api.Reject}, 12, func(x *api.State, s string) { x.Name = s })...)
			m.States[0].Cases[0].Next, m.States[1].Cases[7].Next, m.States[1].Next = 15, 14, 15
		}),
		changed(func(m *api.Image) {
			m.Metas = several(api.Field{W: 128}, 16, func(x *api.Field, s string) { x.Name = s })
			m.States = ground.LeastImage().States
			m.Tables[2].Keys = []api.Key{{Kind: api.KeyMeta, A: 23}}
			m.Tables[3].Size = 256
		}),
		changed(func(m *api.Image) {
			m.Actions = append(m.Actions, several(api.Action{Params: []int{128, 1}}, 23, func(x *api.Action, s string) { x.Name = s })...)
			m.Tables[3].Actions = []int{31, 0}
			m.Tables[3].Default = api.Call{Action: 31, Args: []api.Vec{{W: 128, Hi: 1 << 63}, {W: 1, Lo: 1}}}
			m.Tables = append(m.Tables, several(m.Tables[1], 4, func(x *api.Table, s string) { x.Name = s })...)
		}),
		changed(func(m *api.Image) {
			m.Ingress = slices.Repeat([]api.Node{{Kind: api.NodeValid, Yes: 32, No: 32}}, 32)
			m.Egress = slices.Repeat([]api.Node{{Kind: api.NodeDo, A: 4, Yes: 32}}, 32)
		}),
		changed(func(m *api.Image) {
			m.Checks, m.Updates = slices.Repeat(m.Checks, 2), slices.Repeat(m.Updates[3:], 4)
			m.Regs = several(m.Regs[1], 8, func(x *api.Reg, s string) { x.Name = s })
			m.Counters = several(m.Counters[1], 8, func(x *api.Counter, s string) { x.Name = s })
			m.Meters = several(m.Meters[1], 8, func(x *api.Meter, s string) { x.Name = s })
		}),
		changed(func(m *api.Image) { m.Ingress, m.Egress, m.Deparse = []api.Node{}, nil, []int{} }),
	}
}

func TestEdgesHaveNoFlaw(t *testing.T) {
	for i, m := range edges() {
		if err := image.Check(m); err != nil {
			t.Errorf("the image %d: %v", i, err)
		}
	}
}
