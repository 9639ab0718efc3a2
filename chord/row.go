package chord

import (
	"iter"
	"slices"

	"versine/api"
	"versine/base"
)

// end returns the place after the last one of a trace.
func (t Trace) end() int { return t.First + len(t.Values) }

// places visits the places of a trace.
func (t Trace) places() iter.Seq[int] {
	return func(yield func(int) bool) {
		for i := range t.Values {
			if !yield(t.First + i) {
				return
			}
		}
	}
}

// hasPlacesOf reports whether two traces have the same first place, and as many
// values.
func (t Trace) hasPlacesOf(other Trace) bool {
	return t.First == other.First && len(t.Values) == len(other.Values)
}

// row is a trace while its values are changed: a copy, which has no holes, but
// what is known of each value.
type row struct {
	Trace
	known []bool
}

// rowOf returns the row of a trace without an error.
func rowOf(t Trace) row {
	r := newRow(t.First, len(t.Values))
	copy(r.Values, t.Values)
	r.known = base.KnownOf(len(t.Values), t.Holes)
	return r
}

// newRow returns a row of which nothing is known.
func newRow(first, n int) row {
	return row{Trace{First: first, Values: make([]int, n)}, make([]bool, n)}
}

// at returns the value at a place, and whether it is known.
func (r row) at(place int) (int, bool) {
	i := place - r.First
	return r.Values[i], r.known[i]
}

// put makes the value at a place known.
func (r row) put(place, value int) {
	i := place - r.First
	r.Values[i], r.known[i] = value, true
}

// trace returns the trace of a row, which shares the memory of its values.
func (r row) trace() Trace {
	return Trace{First: r.First, Values: r.Values, Holes: base.HolesOf(r.known)}
}

// checked returns the trace of a row, or ErrLarge if a value is not in its range.
func (r row) checked() (Trace, api.Errno) {
	if slices.ContainsFunc(r.Values, isLarge) {
		return Trace{}, api.ErrLarge
	}
	return r.trace(), api.OK
}

func isLarge(n int) bool { return checkReading(n) != api.OK }
