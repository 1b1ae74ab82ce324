package unpack

import (
	"math"

	"shunter/api"
	"shunter/wire"
)

const (
	maxChoice = 8 // actions of a table

	// No state has these numbers: there are fewer.
	accept = 255
	reject = 254
)

// The things below are read by calls within literals: these are made from the left to the right, which is the order of the bytes.

func head(r *wire.Reader, m *api.Image) {
	m.Name, m.Ports, m.Depth, m.Rounds = r.Name(), single(r), single(r), single(r)
}

func header(r *wire.Reader) api.Header {
	return api.Header{Name: r.Name(), Fields: list(r, api.MaxFields, field), Var: single(r), By: single(r), Mul: single(r), Sub: double(r)}
}

func field(r *wire.Reader) api.Field {
	return api.Field{Name: r.Name(), W: single(r)}
}

func inst(r *wire.Reader) api.Inst {
	return api.Inst{Name: r.Name(), Header: single(r), Depth: single(r)}
}

func state(r *wire.Reader) api.State {
	return api.State{Name: r.Name(), Exts: list(r, api.MaxExts, extraction), Keys: key(r), Cases: list(r, api.MaxCases, caseOf), Next: next(r)}
}

func extraction(r *wire.Reader) api.Ext {
	return api.Ext{Kind: below(r, api.ExtKinds), N: single(r)}
}

func key(r *wire.Reader) []api.Key {
	return list(r, api.MaxKeys, func(r *wire.Reader) api.Key {
		return api.Key{Kind: below(r, api.KeyKinds), A: double(r), B: single(r)}
	})
}

func caseOf(r *wire.Reader) api.Case {
	return api.Case{Value: r.Vec(), Mask: r.Vec(), Next: next(r)}
}

func next(r *wire.Reader) int {
	n := single(r)
	switch n {
	case accept:
		return api.Accept
	case reject:
		return api.Reject
	}
	return n
}

func action(r *wire.Reader) api.Action {
	return api.Action{Name: r.Name(), Params: singles(r, api.MaxParams), Code: instructions(r)}
}

func table(r *wire.Reader) api.Table {
	return api.Table{Name: r.Name(), Kind: below(r, api.TabKinds), Keys: key(r), Actions: singles(r, maxChoice), Default: call(r), Size: double(r)}
}

func call(r *wire.Reader) api.Call {
	return api.Call{Action: single(r), Args: args(r)}
}

func args(r *wire.Reader) []api.Vec {
	return r.Vecs(api.MaxParams)
}

func node(r *wire.Reader) api.Node {
	kind := below(r, api.NodeKinds)
	switch kind {
	case api.NodeIf:
		return api.Node{Kind: kind, Code: instructions(r), Yes: single(r), No: single(r)}
	case api.NodeDo:
		return api.Node{Kind: kind, A: single(r), Args: args(r), Yes: single(r)}
	}
	return api.Node{Kind: kind, A: single(r), Yes: single(r), No: single(r)}
}

func checksum(r *wire.Reader) api.Sum {
	return api.Sum{Slot: single(r), Field: single(r)}
}

func reg(r *wire.Reader) api.Reg {
	return api.Reg{Name: r.Name(), W: single(r), Log: single(r)}
}

func counter(r *wire.Reader) api.Counter {
	return api.Counter{Name: r.Name(), Log: single(r)}
}

func meter(r *wire.Reader) api.Meter {
	return api.Meter{Name: r.Name(), Log: single(r), Rate: double(r), Burst: r.Four(math.MaxUint32)}
}

// list is as many things as its first byte tells.
func list[T any](r *wire.Reader, most int, one func(r *wire.Reader) T) []T {
	var l []T
	for range r.Byte(most) {
		l = append(l, one(r))
	}
	return l
}

func singles(r *wire.Reader, most int) []int {
	return r.Numbers(most, math.MaxUint8)
}

func single(r *wire.Reader) int {
	return r.Byte(math.MaxUint8)
}

func double(r *wire.Reader) int {
	return r.Two(math.MaxUint16)
}

// below is a number of one byte below that of how many there are.
func below[T ~int](r *wire.Reader, count T) T {
	return T(r.Byte(int(count) - 1))
}
