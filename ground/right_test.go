package ground_test

import (
	"testing"

	"shunter/api"
	"shunter/ground"
	"shunter/verify"
)

func TestRightIsRight(t *testing.T) {
	if _, err := verify.Verify(ground.Right()); err != nil {
		t.Error(err)
	}
}

func TestRightHasEachKind(t *testing.T) {
	m := ground.Right()
	ops := map[api.Op]bool{}
	for _, a := range m.Actions {
		for _, x := range a.Code {
			ops[x.Op] = true
		}
	}
	nodes := map[api.NodeKind]bool{}
	for _, n := range m.Ingress {
		nodes[n.Kind] = true
	}
	tables := map[api.TabKind]bool{}
	for _, x := range m.Tables {
		tables[x.Kind] = true
	}
	exts, keys := map[api.ExtKind]bool{}, map[api.KeyKind]bool{}
	for _, s := range m.States {
		for _, x := range s.Exts {
			exts[x.Kind] = true
		}
		for _, k := range s.Keys {
			keys[k.Kind] = true
		}
	}
	if len(ops) != int(api.Ops) || len(nodes) != int(api.NodeKinds) || len(tables) != int(api.TabKinds) || len(exts) != int(api.ExtKinds) || len(keys) != int(api.KeyKinds) {
		t.Error("kinds:", len(ops), len(nodes), len(tables), len(exts), len(keys))
	}
}
