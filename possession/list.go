package possession

import (
	"slices"

	"versine/base"
)

// thing is what has a name in a register.
type thing interface{ name() string }

func (t Track) name() string { return t.Name }

func (f Fault) name() string { return f.Name }

func (t Train) name() string { return t.Name }

func (p Possession) name() string { return p.Name }

func (m Machine) name() string { return m.Name }

// nameOf returns the name of a thing, so that it can be mapped.
func nameOf[T thing](x T) string { return x.name() }

// found returns the thing with a name, and whether there is one.
func found[T thing](l []T, name string) (T, bool) {
	for _, x := range l {
		if x.name() == name {
			return x, true
		}
	}
	var none T
	return none, false
}

// filtered returns the elements for which is holds.
func filtered[T any](l []T, is func(x T) bool) []T {
	var out []T
	for _, x := range l {
		if is(x) {
			out = append(out, x)
		}
	}
	return out
}

// with returns a copy of a list with one element more.
func with[T any](l []T, x T) []T { return append(slices.Clone(l), x) }

// without returns a copy of a list without the thing with a name.
func without[T thing](l []T, name string) []T {
	return filtered(l, func(x T) bool { return x.name() != name })
}

// changed returns a copy of a list in which the thing with a name is changed.
func changed[T thing](l []T, name string, change func(x T) T) []T {
	return base.Mapped(l, func(x T) T {
		if x.name() == name {
			return change(x)
		}
		return x
	})
}
