package possession_test

import (
	"math"
	"slices"
	"strings"
	"testing"

	"versine/api"
	"versine/possession"
)

// badNames returns strings that are no names.
func badNames() []string {
	return words("", "9", "_a", "a b", "a\n", "é", "a-", "a#", strings.Repeat("a", 25))
}

// TestEventsByThemselves checks that events of all kinds with names and values in their ranges have no error.
func TestEventsByThemselves(t *testing.T) {
	for _, kind := range kinds() {
		want(t, kind, list(possession.CheckEvent(plain(kind))), list(api.OK))
		for _, number := range ints(1, 2, 999, 1000) {
			e := plain(kind)
			e.Number = number
			want(t, kind, list(number, possession.CheckEvent(e)), list(number, api.OK))
		}
		for i := range plain(kind).Names {
			for _, name := range words("a", "Z", "z9_", kind, strings.Repeat("a", 24)) {
				e := plain(kind)
				e.Names[i] = name
				want(t, kind, list(name, possession.CheckEvent(e)), list(name, api.OK))
			}
		}
		for i := range plain(kind).Values {
			for _, n := range ints(0, 1, 999999999) {
				e := plain(kind)
				e.Values[i] = n
				want(t, kind, list(n, possession.CheckEvent(e)), list(n, api.OK))
			}
		}
	}
	for _, l := range [][]api.Event{shown(15), journal("undo")} {
		for _, e := range l {
			want(t, "CheckEvent", list(e, possession.CheckEvent(e)), list(e, api.OK))
		}
	}
}

// flaw gives an event an error.
type flaw struct {
	e     api.Errno
	spoil func(e *api.Event)
}

// flawsOf returns flaws of an event of a kind, in the order of their errors.
func flawsOf(kind string) []flaw {
	var l []flaw
	for _, n := range ints(math.MinInt, -1, 0, 1001, math.MaxInt) {
		l = append(l, flaw{api.ErrRange, func(e *api.Event) { e.Number = n }})
	}
	for _, other := range words("", "note", "undo ", "Track", "tracks", "speed", "silent", "#") {
		l = append(l, flaw{api.ErrKind, func(e *api.Event) { e.Kind = other }})
	}
	l = append(l,
		flaw{api.ErrShape, func(e *api.Event) { e.Names = append(e.Names, "n") }},
		flaw{api.ErrShape, func(e *api.Event) { e.Values = append(e.Values, 0) }},
	)
	names, values := len(shapes()[kind].names), shapes()[kind].values
	if names > 0 {
		l = append(l, flaw{api.ErrShape, func(e *api.Event) { e.Names = e.Names[:names-1] }}, flaw{api.ErrShape, func(e *api.Event) { e.Names = nil }})
		l = append(l, flaw{api.ErrShape, func(e *api.Event) { e.Values = e.Values[:values-1] }}, flaw{api.ErrShape, func(e *api.Event) { e.Values = nil }})
	}
	for i := range names {
		for _, name := range badNames() {
			l = append(l, flaw{api.ErrName, func(e *api.Event) { e.Names[min(i, len(e.Names)-1)] = name }})
		}
	}
	for i := range values {
		for _, n := range ints(math.MinInt, -1, 1000000000, math.MaxInt) {
			l = append(l, flaw{api.ErrRange, func(e *api.Event) { e.Values[min(i, len(e.Values)-1)] = n }})
		}
	}
	for _, text := range words("x", " ", "\n") {
		l = append(l, flaw{api.ErrForm, func(e *api.Event) { e.Text = text }})
	}
	return l
}

// TestErrorsOfEvents checks that the first error of an event decides, whatever is wrong behind it.
func TestErrorsOfEvents(t *testing.T) {
	for _, kind := range kinds() {
		flaws := flawsOf(kind)
		for i, f := range flaws {
			e := plain(kind)
			f.spoil(&e)
			want(t, kind, list(i, e, possession.CheckEvent(e)), list(i, e, f.e))
			for k, other := range flaws[i+1:] {
				if f.e == api.ErrShape && other.e == api.ErrShape { // one may undo the other one
					continue
				}
				e := plain(kind)
				other.spoil(&e)
				f.spoil(&e)
				want(t, kind, list(i, k, e, possession.CheckEvent(e)), list(i, k, e, f.e))
			}
		}
	}
}

// TestShapesOfEvents checks all numbers of names and values of all kinds.
func TestShapesOfEvents(t *testing.T) {
	for _, kind := range kinds() {
		for names := range 5 {
			for values := range 7 {
				e := api.Event{Number: 1, Kind: kind, Names: slices.Repeat(words("a"), names), Values: make([]int, values)}
				wanted := api.ErrShape
				if s := shapes()[kind]; len(s.names) == names && s.values == values {
					wanted = api.OK
				}
				want(t, kind, list(names, values, possession.CheckEvent(e)), list(names, values, wanted))
			}
		}
	}
}
