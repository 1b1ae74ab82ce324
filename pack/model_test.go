package pack_test

import (
	"math/big"
	"slices"

	"shunter/api"
	"shunter/code"
	"shunter/image"
)

// The model goes the other way: it reads bytes as the chapter tells an image's, so that an image that is read again as it was had bytes of the right form, with all of it in them.

// source is bytes that are read from the front; what isn't an image's ends it by a panic.
type source struct {
	b []byte
}

func (s *source) must(so bool) {
	if !so {
		panic("no image's bytes")
	}
}

func (s *source) take(count int) []byte {
	s.must(count <= len(s.b))
	b := s.b[:count]
	s.b = s.b[count:]
	return b
}

func (s *source) number(count int) int {
	return int(new(big.Int).SetBytes(s.take(count)).Int64())
}

func (s *source) name() string {
	return string(s.take(s.number(1)))
}

func (s *source) row() api.Vec {
	w := s.number(1)
	s.must(1 <= w && w <= 128)
	n := new(big.Int).SetBytes(s.take((w + 7) / 8))
	s.must(n.BitLen() <= w)
	hi := new(big.Int).Rsh(n, 64)
	return api.Vec{W: w, Hi: hi.Uint64(), Lo: n.Sub(n, new(big.Int).Lsh(hi, 64)).Uint64()}
}

func listOf[T any](s *source, one func() T) []T {
	var l []T
	for range s.number(1) {
		l = append(l, one())
	}
	return l
}

func (s *source) numbers() []int { return listOf(s, func() int { return s.number(1) }) }

func (s *source) rows() []api.Vec { return listOf(s, s.row) }

func (s *source) field() api.Field { return api.Field{Name: s.name(), W: s.number(1)} }

func (s *source) header() api.Header {
	return api.Header{Name: s.name(), Fields: listOf(s, s.field), Var: s.number(1), By: s.number(1), Mul: s.number(1), Sub: s.number(2)}
}

func (s *source) inst() api.Inst {
	return api.Inst{Name: s.name(), Header: s.number(1), Depth: s.number(1)}
}

func (s *source) next() int {
	n := s.number(1)
	switch n {
	case 255:
		return api.Accept
	case 254:
		return api.Reject
	}
	return n
}

func (s *source) ext() api.Ext { return api.Ext{Kind: api.ExtKind(s.number(1)), N: s.number(1)} }

func (s *source) key() []api.Key {
	return listOf(s, func() api.Key { return api.Key{Kind: api.KeyKind(s.number(1)), A: s.number(2), B: s.number(1)} })
}

func (s *source) caseOf() api.Case {
	return api.Case{Value: s.row(), Mask: s.row(), Next: s.next()}
}

func (s *source) state() api.State {
	return api.State{Name: s.name(), Exts: listOf(s, s.ext), Keys: s.key(), Cases: listOf(s, s.caseOf), Next: s.next()}
}

// names is which of V, A and B an operation names, by its name in layer 9's table.
func names(o api.Op) string {
	switch code.Name(o) {
	case "push":
		return "V"
	case "field", "put-field", "slice", "push-head", "pop-head", "jump-gone":
		return "AB"
	case "meta", "put-meta", "param", "valid", "show", "hide", "reg", "put-reg", "shl", "shr", "cast", "count", "meter", "jump", "jump-zero":
		return "A"
	}
	return ""
}

func (s *source) ins() api.Ins {
	x := api.Ins{Op: api.Op(s.number(1))}
	for _, r := range names(x.Op) {
		switch r {
		case 'V':
			x.V = s.row()
		case 'A':
			x.A = s.number(1)
		case 'B':
			x.B = s.number(1)
		}
	}
	return x
}

func (s *source) action() api.Action {
	return api.Action{Name: s.name(), Params: s.numbers(), Code: listOf(s, s.ins)}
}

func (s *source) table() api.Table {
	return api.Table{Name: s.name(), Kind: api.TabKind(s.number(1)), Keys: s.key(), Actions: s.numbers(), Default: api.Call{Action: s.number(1), Args: s.rows()}, Size: s.number(2)}
}

func (s *source) node() api.Node {
	switch kind := api.NodeKind(s.number(1)); kind {
	case api.NodeIf:
		return api.Node{Kind: kind, Code: listOf(s, s.ins), Yes: s.number(1), No: s.number(1)}
	case api.NodeDo:
		return api.Node{Kind: kind, A: s.number(1), Args: s.rows(), Yes: s.number(1)}
	case api.NodeApply, api.NodeValid:
		return api.Node{Kind: kind, A: s.number(1), Yes: s.number(1), No: s.number(1)}
	}
	panic("no node")
}

func (s *source) sum() api.Sum { return api.Sum{Slot: s.number(1), Field: s.number(1)} }

func (s *source) image() api.Image {
	m := api.Image{}
	s.must(string(s.take(5)) == "SHNT\x01")
	for part, read := range []func(s *source){
		func(s *source) { m.Name, m.Ports, m.Depth, m.Rounds = s.name(), s.number(1), s.number(1), s.number(1) },
		func(s *source) { m.Headers = listOf(s, s.header) },
		func(s *source) { m.Insts = listOf(s, s.inst) },
		func(s *source) { m.Metas = listOf(s, s.field) },
		func(s *source) { m.States = listOf(s, s.state) },
		func(s *source) { m.Actions = listOf(s, s.action) },
		func(s *source) { m.Tables = listOf(s, s.table) },
		func(s *source) { m.Ingress = listOf(s, s.node) },
		func(s *source) { m.Egress = listOf(s, s.node) },
		func(s *source) { m.Deparse = s.numbers() },
		func(s *source) { m.Checks = listOf(s, s.sum) },
		func(s *source) { m.Updates = listOf(s, s.sum) },
		func(s *source) {
			m.Regs = listOf(s, func() api.Reg { return api.Reg{Name: s.name(), W: s.number(1), Log: s.number(1)} })
		},
		func(s *source) {
			m.Counters = listOf(s, func() api.Counter { return api.Counter{Name: s.name(), Log: s.number(1)} })
		},
		func(s *source) {
			m.Meters = listOf(s, func() api.Meter {
				return api.Meter{Name: s.name(), Log: s.number(1), Rate: s.number(2), Burst: s.number(4)}
			})
		},
	} {
		s.must(s.number(1) == part)
		section := &source{s.take(s.number(4))}
		read(section)
		s.must(len(section.b) == 0)
	}
	s.must(len(s.b) == 0)
	return m
}

// imageOf is the image without a flaw whose bytes they are.
func imageOf(b []byte) (m api.Image, ok bool) {
	defer func() {
		if r := recover(); r != nil {
			m, ok = api.Image{}, false
		}
	}()
	m = (&source{slices.Clone(b)}).image()
	return m, image.Check(m) == nil
}

func rowOf(w int, lo uint64) api.Vec { return api.Vec{W: w, Lo: lo} }
