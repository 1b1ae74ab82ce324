package image

import (
	"shunter/api"
	"shunter/shape"
	"shunter/vec"
	"shunter/word"
)

const (
	maxSkip  = 64   // bytes that are skipped at one time
	maxAhead = 1024 // bits that lie ahead of those that are looked at
	maxLook  = 64   // bits that are looked at
)

func (c checker) states() (int, api.Errno) {
	if len(c.m.States) == 0 {
		return 0, api.ErrNone
	}
	return named(c.m.States, api.MaxStates, func(s api.State) string { return s.Name }, c.state)
}

func (c checker) state(s api.State) api.Errno {
	_, exts := each(s.Exts, api.MaxExts, c.ext)
	_, cases := each(s.Cases, api.MaxCases, c.caseOf(s.Keys))
	return first(
		exts,
		c.key(s.Keys, api.KeyKinds),
		cases,
		c.next(s.Next),
	)
}

func (c checker) ext(_ int, x api.Ext) api.Errno {
	switch x.Kind {
	case api.ExtOne:
		i, _, ok := shape.Of(c.m.Insts, x.N)
		return unless(ok && c.m.Insts[i].Depth == 0, api.ErrNone)
	case api.ExtNext:
		_, _, ok := Stacked(c.m, x.N)
		return unless(ok, api.ErrNone)
	case api.ExtSkip:
		return unless(within(x.N, 1, maxSkip), api.ErrRange)
	}
	return api.ErrKind
}

// key asks a key whose parts are of the kinds ahead of one.
func (c checker) key(l []api.Key, kinds api.KeyKind) api.Errno {
	_, parts := each(l, api.MaxKeys, func(_ int, k api.Key) api.Errno {
		return first(
			unless(within(k.Kind, 0, kinds-1), api.ErrKind),
			c.keyPart(k),
		)
	})
	_, ok := Key(c.m, l)
	return first(parts, unless(ok, api.ErrWidth))
}

func (c checker) keyPart(k api.Key) api.Errno {
	_, ok := partWidth(c.m, k)
	inRange := true
	switch k.Kind {
	case api.KeyMeta:
		inRange = k.B == 0
	case api.KeyLook:
		inRange = within(k.A, 0, maxAhead) && within(k.B, 1, maxLook)
	}
	return first(
		unless(ok, api.ErrNone),
		unless(inRange, api.ErrRange),
	)
}

// caseOf asks the cases of a key, whose width it works out once for all of them.
func (c checker) caseOf(key []api.Key) func(i int, x api.Case) api.Errno {
	w, _ := Key(c.m, key)
	return func(_ int, x api.Case) api.Errno {
		beyond := word.And(vec.Word(x.Value), word.Not(vec.Word(x.Mask)))
		return first(
			unless(len(key) > 0, api.ErrForm),
			unless(isRow(x.Value, w) && isRow(x.Mask, w), api.ErrWidth),
			unless(beyond == word.Word{}, api.ErrMask),
			c.next(x.Next),
		)
	}
}

func (c checker) next(n int) api.Errno {
	return unless(isPlace(c.m.States, n) || n == api.Accept || n == api.Reject, api.ErrNone)
}
