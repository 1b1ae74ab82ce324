package ground

import (
	"slices"

	"shunter/api"
)

// Flaws break Image, each in a way of its own, and all its parts among them.
func Flaws() []func(m *api.Image) {
	return []func(m *api.Image){
		func(m *api.Image) { m.Name = "" },
		func(m *api.Image) { m.Ports = 65 },
		func(m *api.Image) { m.Headers[0].Fields[0].W = 49 },
		func(m *api.Image) { m.Insts[1].Depth = 5 },
		func(m *api.Image) { m.Metas[0].W = 129 },
		func(m *api.Image) { m.States = nil },
		func(m *api.Image) { m.Actions[1].Code[0].A = 2 },
		func(m *api.Image) { m.Actions[1].Params[0] = 0 },
		func(m *api.Image) { m.Actions[0].Code = slices.Repeat([]api.Ins{{Op: api.OpStop}}, 65) },
		func(m *api.Image) { m.Tables[0].Size = 0 },
		func(m *api.Image) { m.Ingress[0].Yes = 0 },
		func(m *api.Image) { m.Ingress[1].Code[0].A = 7 },
		func(m *api.Image) { m.Egress[0].A = 7 },
		func(m *api.Image) { m.Deparse[0] = 0 },
		func(m *api.Image) { m.Checks[0].Field = 4 },
		func(m *api.Image) { m.Updates[0].Slot = 7 },
		func(m *api.Image) { m.Regs[0].Log = 9 },
		func(m *api.Image) { m.Counters[0].Log = 0 },
		func(m *api.Image) { m.Meters[0].Burst = 0 },
	}
}
