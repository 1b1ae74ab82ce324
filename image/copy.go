package image

import (
	"slices"
	"strings"

	"shunter/api"
)

// Copy is an image in new memory.
func Copy(m api.Image) api.Image {
	m.Name = strings.Clone(m.Name)
	m.Headers = copies(m.Headers, copyHeader)
	m.Insts = copies(m.Insts, copyInst)
	m.Metas = copies(m.Metas, copyField)
	m.States = copies(m.States, copyState)
	m.Actions = copies(m.Actions, copyAction)
	m.Tables = copies(m.Tables, copyTable)
	m.Ingress = copies(m.Ingress, copyNode)
	m.Egress = copies(m.Egress, copyNode)
	m.Deparse = slices.Clone(m.Deparse)
	m.Checks = slices.Clone(m.Checks)
	m.Updates = slices.Clone(m.Updates)
	m.Regs = copies(m.Regs, func(x api.Reg) api.Reg { x.Name = strings.Clone(x.Name); return x })
	m.Counters = copies(m.Counters, func(x api.Counter) api.Counter { x.Name = strings.Clone(x.Name); return x })
	m.Meters = copies(m.Meters, func(x api.Meter) api.Meter { x.Name = strings.Clone(x.Name); return x })
	return m
}

// copies are all things in new memory, each of them copied for itself.
func copies[T any](l []T, one func(x T) T) []T {
	l = slices.Clone(l)
	for i, x := range l {
		l[i] = one(x)
	}
	return l
}

func copyHeader(x api.Header) api.Header {
	x.Name = strings.Clone(x.Name)
	x.Fields = copies(x.Fields, copyField)
	return x
}

func copyField(x api.Field) api.Field {
	x.Name = strings.Clone(x.Name)
	return x
}

func copyInst(x api.Inst) api.Inst {
	x.Name = strings.Clone(x.Name)
	return x
}

func copyState(x api.State) api.State {
	x.Name = strings.Clone(x.Name)
	x.Exts = slices.Clone(x.Exts)
	x.Keys = slices.Clone(x.Keys)
	x.Cases = slices.Clone(x.Cases)
	return x
}

func copyAction(x api.Action) api.Action {
	x.Name = strings.Clone(x.Name)
	x.Params = slices.Clone(x.Params)
	x.Code = slices.Clone(x.Code)
	return x
}

func copyTable(x api.Table) api.Table {
	x.Name = strings.Clone(x.Name)
	x.Keys = slices.Clone(x.Keys)
	x.Actions = slices.Clone(x.Actions)
	x.Default.Args = slices.Clone(x.Default.Args)
	return x
}

func copyNode(x api.Node) api.Node {
	x.Code = slices.Clone(x.Code)
	x.Args = slices.Clone(x.Args)
	return x
}
