package align

import (
	"slices"

	"versine/api"
	"versine/base"
)

func (m Mark) turned(place int) Mark { return Mark{m.Kind, place - m.Place} }

func (s Sight) turned(count int) Sight { return Sight{s.Kind, count - s.Count} }

// turned returns marks or sights in the opposite order, each one turned about a number.
func turned[T any](l []T, about int, turn func(x T, about int) T) []T {
	out := base.Mapped(l, func(x T) T { return turn(x, about) })
	slices.Reverse(out)
	return out
}

// Turned returns a ride in the other direction.
func Turned(r Ride, place, count int) (Ride, api.Errno) {
	if e := base.FirstError(CheckRide(r), checkPlace(place), checkPlace(count)); e != api.OK {
		return Ride{}, e
	}
	ride := Ride{turned(r.Marks, place, Mark.turned), turned(r.Sights, count, Sight.turned)}
	if e := CheckRide(ride); e != api.OK { // ErrRange: all else is right in both directions
		return Ride{}, e
	}
	return ride, api.OK
}

// TurnedPairs returns an alignment of the ride in the other direction.
func TurnedPairs(r Ride, l []Pair) ([]Pair, api.Errno) {
	if e := CheckPairs(r, l); e != api.OK {
		return nil, e
	}
	pairs := base.Mapped(l, func(p Pair) Pair {
		return Pair{len(r.Sights) - 1 - p.Sight, len(r.Marks) - 1 - p.Mark}
	})
	slices.Reverse(pairs)
	return pairs, api.OK
}
