package image

import (
	"math"
	"slices"

	"shunter/api"
	"shunter/name"
	"shunter/shape"
)

const (
	sumWidth = 16             // bits of a checksum, which lies at a multiple of as many
	maxRate  = math.MaxUint16 // bytes a tick
)

// checker asks an image's parts, each by a method that tells the number of the thing of which something isn't so, and what.
type checker struct {
	m api.Image
}

// Check tells what isn't so.
func Check(m api.Image) error {
	for part, ask := range (checker{m}).parts() {
		if n, e := ask(); e != api.OK {
			return &Flaw{part, n, e}
		}
	}
	return nil
}

// parts are in their order, for what a part asks leans on the parts ahead being so.
func (c checker) parts() []func() (int, api.Errno) {
	return []func() (int, api.Errno){
		c.image,
		c.headers,
		c.insts,
		c.metas,
		c.states,
		c.actions,
		c.tables,
		c.ingress,
		c.egress,
		c.deparse,
		c.checks,
		c.updates,
		c.regs,
		c.counters,
		c.meters,
	}
}

func (c checker) image() (int, api.Errno) {
	inRange := within(c.m.Ports, 1, api.MaxPorts) && within(c.m.Depth, 1, api.MaxDepth) && within(c.m.Rounds, 0, api.MaxAgain)
	return 0, first(
		unless(name.May(c.m.Name), api.ErrForm),
		unless(inRange, api.ErrRange),
	)
}

func (c checker) headers() (int, api.Errno) {
	names := gather(c.m.Headers, func(h api.Header) string { return h.Name })
	return each(c.m.Headers, api.MaxHeaders, func(i int, h api.Header) api.Errno {
		return first(shape.May(h), notTwice(names, i))
	})
}

func (c checker) insts() (int, api.Errno) {
	return 0, shape.Insts(c.m.Headers, c.m.Insts)
}

func (c checker) metas() (int, api.Errno) {
	return named(c.m.Metas, api.MaxMetas,
		func(f api.Field) string { return f.Name },
		func(f api.Field) api.Errno { return mayWidth(f.W) })
}

func (c checker) deparse() (int, api.Errno) {
	return each(c.m.Deparse, api.MaxSlots, func(i, slot int) api.Errno {
		return first(
			unless(isSlot(c.m, slot), api.ErrNone),
			unless(!slices.Contains(c.m.Deparse[:i], slot), api.ErrTwice),
		)
	})
}

func (c checker) checks() (int, api.Errno) {
	return c.sums(c.m.Checks)
}

func (c checker) updates() (int, api.Errno) {
	return c.sums(c.m.Updates)
}

func (c checker) sums(l []api.Sum) (int, api.Errno) {
	return each(l, api.MaxSums, func(_ int, x api.Sum) api.Errno {
		h, _ := Slot(c.m, x.Slot)
		at, _ := shape.Offset(h, x.Field)
		w, ok := Field(c.m, x.Slot, x.Field)
		return first(
			unless(ok, api.ErrNone),
			unless(w == sumWidth && at%sumWidth == 0, api.ErrWidth),
		)
	})
}

func (c checker) regs() (int, api.Errno) {
	return named(c.m.Regs, api.MaxUnits,
		func(x api.Reg) string { return x.Name },
		func(x api.Reg) api.Errno { return first(mayWidth(x.W), mayLog(x.Log)) })
}

func (c checker) counters() (int, api.Errno) {
	return named(c.m.Counters, api.MaxUnits,
		func(x api.Counter) string { return x.Name },
		func(x api.Counter) api.Errno { return mayLog(x.Log) })
}

func (c checker) meters() (int, api.Errno) {
	return named(c.m.Meters, api.MaxUnits,
		func(x api.Meter) string { return x.Name },
		func(x api.Meter) api.Errno {
			inRange := within(x.Rate, 0, maxRate) && within(x.Burst, 1, api.MaxTick)
			return first(mayLog(x.Log), unless(inRange, api.ErrRange))
		})
}

func mayLog(n int) api.Errno {
	return unless(within(n, 1, api.MaxLog), api.ErrRange)
}
