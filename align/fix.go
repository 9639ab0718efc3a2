package align

import (
	"versine/base"
)

// fix is what a pair says: that a count is at a place.
type fix struct {
	place int
	count int
}

// fix returns what a pair of a ride says.
func (r Ride) fix(p Pair) fix { return fix{r.Marks[p.Mark].Place, r.Sights[p.Sight].Count} }

// fixes returns what the pairs of an alignment say.
func (r Ride) fixes(l []Pair) []fix { return base.Mapped(l, r.fix) }

// two is what two pairs say, that with the lesser count first.
type two [2]fix

// stretch returns by how much the distances of both marks and of both counts differ.
func (x two) stretch() int {
	d := x[1].place - x[0].place - x.counts()
	return max(d, -d)
}

// counts returns the distance of both counts.
func (x two) counts() int { return x[1].count - x[0].count }
