package image

import (
	"slices"
	"strings"

	"shunter/api"
	"shunter/name"
	"shunter/vec"
)

// each asks things by their numbers, and tells the first one of which something isn't so; that there are too many is told of the number 0.
func each[T any](l []T, most int, ask func(i int, x T) api.Errno) (int, api.Errno) {
	if len(l) > most {
		return 0, api.ErrLong
	}
	for i, x := range l {
		if e := ask(i, x); e != api.OK {
			return i, e
		}
	}
	return 0, api.OK
}

// named asks of each thing a plain name that isn't there twice, ahead of all else.
func named[T any](l []T, most int, nameOf func(x T) string, ask func(x T) api.Errno) (int, api.Errno) {
	names := gather(l, nameOf)
	return each(l, most, func(i int, x T) api.Errno {
		return first(
			unless(plain(names[i]), api.ErrForm),
			notTwice(names, i),
			ask(x),
		)
	})
}

// gather is all things' names: layer 5 looks for what is alike in lists of names alone.
func gather[T any](l []T, nameOf func(x T) string) []string {
	names := make([]string, len(l))
	for i, x := range l {
		names[i] = nameOf(x)
	}
	return names
}

func notTwice(names []string, i int) api.Errno {
	return unless(name.Index(names[:i], names[i]) < 0, api.ErrTwice)
}

// plain tells whether a text is a name without a full stop.
func plain(s string) bool {
	return name.May(s) && !strings.Contains(s, ".")
}

// first is the first error that there is.
func first(l ...api.Errno) api.Errno {
	i := slices.IndexFunc(l, func(e api.Errno) bool { return e != api.OK })
	if i < 0 {
		return api.OK
	}
	return l[i]
}

func unless(so bool, e api.Errno) api.Errno {
	if so {
		return api.OK
	}
	return e
}

func mayWidth(w int) api.Errno {
	return unless(within(w, 1, api.MaxWidth), api.ErrWidth)
}

// isRow tells whether it is a row of so many bits.
func isRow(v api.Vec, w int) bool {
	return v.W == w && vec.May(v)
}
