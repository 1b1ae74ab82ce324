package pack

import (
	"slices"

	"shunter/api"
	"shunter/wire"
)

func head(m api.Image) []byte {
	return named(m.Name, singles(m.Ports, m.Depth, m.Rounds))
}

func header(x api.Header) []byte {
	return named(x.Name, list(x.Fields, field), singles(x.Var, x.By, x.Mul), wire.Two(nil, x.Sub))
}

func field(x api.Field) []byte {
	return named(x.Name, singles(x.W))
}

func inst(x api.Inst) []byte {
	return named(x.Name, singles(x.Header, x.Depth))
}

func state(x api.State) []byte {
	return named(x.Name, list(x.Exts, extraction), list(x.Keys, keyPart), list(x.Cases, caseOf), next(x.Next))
}

func extraction(x api.Ext) []byte {
	return singles(int(x.Kind), x.N)
}

func keyPart(x api.Key) []byte {
	return slices.Concat(singles(int(x.Kind)), wire.Two(nil, x.A), singles(x.B))
}

func caseOf(x api.Case) []byte {
	return slices.Concat(wire.Vec(nil, x.Value), wire.Vec(nil, x.Mask), next(x.Next))
}

// next writes Accept and Reject as they stand, too: below 0, they become 255 and 254, and no state has these numbers.
func next(n int) []byte {
	return singles(n)
}

func action(x api.Action) []byte {
	return named(x.Name, wire.Numbers(nil, x.Params), instructions(x.Code))
}

func table(x api.Table) []byte {
	return named(x.Name, singles(int(x.Kind)), list(x.Keys, keyPart), wire.Numbers(nil, x.Actions), call(x.Default), wire.Two(nil, x.Size))
}

func call(x api.Call) []byte {
	return slices.Concat(singles(x.Action), wire.Vecs(nil, x.Args))
}

// node writes what its kind has alone: the rest of it is zero, or the image has a flaw.
func node(x api.Node) []byte {
	kind := int(x.Kind)
	switch x.Kind {
	case api.NodeIf:
		return slices.Concat(singles(kind), instructions(x.Code), singles(x.Yes, x.No))
	case api.NodeDo:
		return slices.Concat(singles(kind, x.A), wire.Vecs(nil, x.Args), singles(x.Yes))
	}
	return singles(kind, x.A, x.Yes, x.No)
}

func checksum(x api.Sum) []byte {
	return singles(x.Slot, x.Field)
}

func reg(x api.Reg) []byte {
	return named(x.Name, singles(x.W, x.Log))
}

func counter(x api.Counter) []byte {
	return named(x.Name, singles(x.Log))
}

func meter(x api.Meter) []byte {
	return named(x.Name, singles(x.Log), wire.Two(nil, x.Rate), wire.Four(nil, x.Burst))
}

// named is a thing that begins with its name.
func named(s string, rest ...[]byte) []byte {
	return append(wire.Name(nil, s), slices.Concat(rest...)...)
}
