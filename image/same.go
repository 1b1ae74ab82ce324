package image

import (
	"slices"

	"shunter/api"
)

// Same tells whether two images are.
func Same(a, b api.Image) bool {
	return a.Name == b.Name && a.Ports == b.Ports && a.Depth == b.Depth && a.Rounds == b.Rounds &&
		slices.EqualFunc(a.Headers, b.Headers, sameHeader) &&
		slices.Equal(a.Insts, b.Insts) &&
		slices.Equal(a.Metas, b.Metas) &&
		slices.EqualFunc(a.States, b.States, sameState) &&
		slices.EqualFunc(a.Actions, b.Actions, sameAction) &&
		slices.EqualFunc(a.Tables, b.Tables, sameTable) &&
		slices.EqualFunc(a.Ingress, b.Ingress, sameNode) &&
		slices.EqualFunc(a.Egress, b.Egress, sameNode) &&
		slices.Equal(a.Deparse, b.Deparse) &&
		slices.Equal(a.Checks, b.Checks) &&
		slices.Equal(a.Updates, b.Updates) &&
		slices.Equal(a.Regs, b.Regs) &&
		slices.Equal(a.Counters, b.Counters) &&
		slices.Equal(a.Meters, b.Meters)
}

func sameHeader(a, b api.Header) bool {
	return a.Name == b.Name && a.Var == b.Var && a.By == b.By && a.Mul == b.Mul && a.Sub == b.Sub &&
		slices.Equal(a.Fields, b.Fields)
}

func sameState(a, b api.State) bool {
	return a.Name == b.Name && a.Next == b.Next &&
		slices.Equal(a.Exts, b.Exts) &&
		slices.Equal(a.Keys, b.Keys) &&
		slices.Equal(a.Cases, b.Cases)
}

func sameAction(a, b api.Action) bool {
	return a.Name == b.Name &&
		slices.Equal(a.Params, b.Params) &&
		slices.Equal(a.Code, b.Code)
}

func sameTable(a, b api.Table) bool {
	return a.Name == b.Name && a.Kind == b.Kind && a.Size == b.Size && a.Default.Action == b.Default.Action &&
		slices.Equal(a.Keys, b.Keys) &&
		slices.Equal(a.Actions, b.Actions) &&
		slices.Equal(a.Default.Args, b.Default.Args)
}

func sameNode(a, b api.Node) bool {
	return a.Kind == b.Kind && a.A == b.A && a.Yes == b.Yes && a.No == b.No &&
		slices.Equal(a.Code, b.Code) &&
		slices.Equal(a.Args, b.Args)
}
