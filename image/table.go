package image

import (
	"slices"

	"shunter/api"
)

const maxChoice = 8 // actions of a table

func (c checker) tables() (int, api.Errno) {
	return named(c.m.Tables, api.MaxTables, func(x api.Table) string { return x.Name }, c.table)
}

func (c checker) table(x api.Table) api.Errno {
	return first(
		unless(within(x.Kind, 0, api.TabKinds-1), api.ErrKind),
		unless(len(x.Keys) > 0, api.ErrNone),
		c.key(x.Keys, api.KeyLook), // Look is the last kind, and no table's
		c.choice(x.Actions),
		unless(slices.Contains(x.Actions, x.Default.Action), api.ErrAction),
		c.args(x.Default.Action, x.Default.Args),
		unless(within(x.Size, 1, api.MaxEntries), api.ErrRange),
	)
}

// choice asks the actions of which each entry of a table calls one.
func (c checker) choice(l []int) api.Errno {
	_, there := each(l, maxChoice, func(_, a int) api.Errno {
		return unless(isPlace(c.m.Actions, a), api.ErrNone)
	})
	_, twice := each(l, maxChoice, func(i, a int) api.Errno {
		return unless(!slices.Contains(l[:i], a), api.ErrTwice)
	})
	return first(unless(len(l) > 0, api.ErrNone), there, twice)
}

// args asks the arguments of an action; that it is there is asked elsewhere.
func (c checker) args(action int, l []api.Vec) api.Errno {
	if !isPlace(c.m.Actions, action) {
		return api.ErrNone
	}
	params := c.m.Actions[action].Params
	if len(l) != len(params) {
		return api.ErrLong
	}
	_, e := each(l, len(l), func(i int, v api.Vec) api.Errno {
		return unless(isRow(v, params[i]), api.ErrWidth)
	})
	return e
}
