package image

import "shunter/api"

func (c checker) ingress() (int, api.Errno) {
	return c.nodes(c.m.Ingress)
}

func (c checker) egress() (int, api.Errno) {
	return c.nodes(c.m.Egress)
}

func (c checker) nodes(l []api.Node) (int, api.Errno) {
	return each(l, api.MaxNodes, func(i int, x api.Node) api.Errno {
		return first(
			c.nodeNames(x),
			c.nodeCode(x),
			c.nodeArgs(x),
			nodeLeads(x, i, len(l)),
		)
	})
}

func (c checker) nodeNames(x api.Node) api.Errno {
	switch x.Kind {
	case api.NodeApply:
		return unless(isPlace(c.m.Tables, x.A), api.ErrNone)
	case api.NodeIf:
		return unless(x.A == 0, api.ErrNone)
	case api.NodeDo:
		return unless(isPlace(c.m.Actions, x.A), api.ErrNone)
	case api.NodeValid:
		return unless(isSlot(c.m, x.A), api.ErrNone)
	}
	return api.ErrKind
}

func (c checker) nodeCode(x api.Node) api.Errno {
	if x.Kind == api.NodeIf {
		return Code(c.m, nil, x.Code)
	}
	return unless(len(x.Code) == 0, api.ErrForm)
}

func (c checker) nodeArgs(x api.Node) api.Errno {
	if x.Kind == api.NodeDo {
		return c.args(x.A, x.Args)
	}
	return unless(len(x.Args) == 0, api.ErrForm)
}

// nodeLeads asks where a node leads from its place: only ahead, so that no way goes round.
func nodeLeads(x api.Node, at, end int) api.Errno {
	yes := unless(within(x.Yes, at+1, end), api.ErrLoop)
	if x.Kind == api.NodeDo { // it leads to Yes alone
		return first(unless(x.No == 0, api.ErrForm), yes)
	}
	return first(yes, unless(within(x.No, at+1, end), api.ErrLoop))
}
