package ground

import (
	"slices"
	"strconv"
	"strings"

	"shunter/api"
)

// Changed is Image with a change.
func Changed(in func(m *api.Image)) api.Image {
	m := Image()
	in(&m)
	return m
}

// Several are n things with names of their own.
func Several[T any](x T, n int, put func(x *T, s string)) []T {
	l := make([]T, n)
	for i := range l {
		l[i] = x
		put(&l[i], "name-"+strconv.Itoa(i))
	}
	return l
}

// Images have no flaw, and among them the greatest numbers, the longest names and the most things that there may be.
func Images() []api.Image {
	l := []api.Image{LeastImage(), Image()}
	for _, in := range slices.Concat(longNames(), mostThings()) {
		l = append(l, Changed(in))
	}
	return l
}

func longNames() []func(m *api.Image) {
	long := strings.Repeat("ӿ", api.MaxName)
	return []func(m *api.Image){
		func(m *api.Image) { m.Name = long },
		func(m *api.Image) { m.Headers[3].Fields[0].Name, m.Insts[4].Name, m.Metas[2].Name = long, long, long },
		func(m *api.Image) { m.States[3].Name, m.Actions[8].Name, m.Tables[3].Name = long, long, long },
		func(m *api.Image) { m.Regs[1].Name, m.Counters[2].Name, m.Meters[1].Name = long, long, long },
	}
}

func mostThings() []func(m *api.Image) {
	return []func(m *api.Image){
		func(m *api.Image) {
			h := &m.Headers[2]
			h.Var, h.By, h.Mul, h.Sub = 64, 3, 64, 4096
		},
		mostHeaders,
		func(m *api.Image) {
			m.States = append(m.States, Several(api.State{Next: api.Reject}, 12, func(x *api.State, s string) { x.Name = s })...)
			m.States[0].Cases[0].Next, m.States[1].Cases[7].Next, m.States[1].Next = 15, 14, 15
		},
		func(m *api.Image) {
			m.Metas = Several(api.Field{W: 128}, 16, func(x *api.Field, s string) { x.Name = s })
			m.States = LeastImage().States
			m.Tables[2].Keys = []api.Key{{Kind: api.KeyMeta, A: 23}}
			m.Tables[3].Size = 256
		},
		func(m *api.Image) {
			m.Actions = append(m.Actions, Several(api.Action{Params: []int{128, 1}}, 23, func(x *api.Action, s string) { x.Name = s })...)
			m.Tables[3].Actions = []int{31, 0}
			m.Tables[3].Default = api.Call{Action: 31, Args: []api.Vec{{W: 128, Hi: 1 << 63}, {W: 1, Lo: 1}}}
			m.Tables = append(m.Tables, Several(m.Tables[1], 4, func(x *api.Table, s string) { x.Name = s })...)
		},
		func(m *api.Image) {
			m.Ingress = slices.Repeat([]api.Node{{Kind: api.NodeValid, Yes: 32, No: 32}}, 32)
			m.Egress = slices.Repeat([]api.Node{{Kind: api.NodeDo, A: 4, Yes: 32}}, 32)
		},
		func(m *api.Image) {
			m.Checks, m.Updates = slices.Repeat(m.Checks, 2), slices.Repeat(m.Updates[3:], 4)
			m.Regs = Several(m.Regs[1], 8, func(x *api.Reg, s string) { x.Name = s })
			m.Counters = Several(m.Counters[1], 8, func(x *api.Counter, s string) { x.Name = s })
			m.Meters = Several(m.Meters[1], 8, func(x *api.Meter, s string) { x.Name = s })
		},
		func(m *api.Image) { m.Ingress, m.Egress, m.Deparse = []api.Node{}, nil, []int{} },
	}
}

// mostHeaders brings as many headers, fields, instances and slots as there may be.
func mostHeaders(m *api.Image) {
	fields := Several(api.Field{W: 8}, 16, func(x *api.Field, s string) { x.Name = s })
	fields[15].W = 128
	m.Headers = append(m.Headers, Several(api.Header{Fields: fields, Var: 1, By: 14, Mul: 1}, 12, func(x *api.Header, s string) { x.Name = s })...)
	m.Insts = append(m.Insts, Several(api.Inst{Header: 15, Depth: 4}, 6, func(x *api.Inst, s string) { x.Name = s })...)
	m.Insts = append(m.Insts, api.Inst{Name: "last", Header: 14})
	m.Deparse = nil
	for i := range 32 {
		m.Deparse = append(m.Deparse, 31-i)
	}
	m.Tables[0].Keys = []api.Key{{Kind: api.KeyField, A: 30, B: 15}}
	m.States[0].Exts = []api.Ext{{Kind: api.ExtOne, N: 31}, {Kind: api.ExtNext, N: 10}, {Kind: api.ExtSkip, N: 64}, {Kind: api.ExtSkip, N: 1}}
	m.Egress[0].A = 31
}

// Sized has no flaw, and n bytes as layer 11 tells them, from some 40,000 to some 70,000; each of its nodes has as much code as there may be.
func Sized(n int) api.Image {
	m := LeastImage()
	m.Ingress, m.Egress = ifs(api.Ins{V: vecOf(128, 5)}), ifs(api.Ins{Op: api.OpStop})
	more := n - (5 + 15*5 + 5 + 7 + 11 + 32*(64*18+4) + 1 + 32*(64+4) + 1)
	for i := 0; more > 0; i++ {
		// A push of a row is longer than a stop by from 2 to 17 bytes, a shift by one.
		x, longer := api.Ins{Op: api.OpShl}, 1
		if more > 1 {
			longer = min(more, 17)
			x = api.Ins{V: vecOf(8*(longer-1), 1)}
		}
		m.Egress[i%32].Code[i/32] = x
		more -= longer
	}
	return m
}

// ifs are as many nodes of If as there may be, with an instruction as often as it may be in each.
func ifs(x api.Ins) []api.Node {
	var nodes []api.Node
	for range api.MaxNodes {
		nodes = append(nodes, api.Node{Kind: api.NodeIf, Code: slices.Repeat([]api.Ins{x}, api.MaxCode), Yes: api.MaxNodes, No: api.MaxNodes})
	}
	return nodes
}
