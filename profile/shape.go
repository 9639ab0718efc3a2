package profile

import (
	"iter"
	"slices"

	"versine/api"
	"versine/base"
)

// has reports whether a column is one of a profile, which may have errors.
func (p Profile) has(column int) bool {
	return len(p) > 0 && p[0].X <= column && column <= p[len(p)-1].X
}

// columns visits the columns of a profile, ascending.
func (p Profile) columns() iter.Seq[int] {
	first, last := p[0].X, p[len(p)-1].X
	return func(yield func(column int) bool) {
		for i := range last - first + 1 {
			if !yield(first + i) {
				return
			}
		}
	}
}

// height returns the height at a column of a profile.
func (p Profile) height(column int) int {
	after := slices.IndexFunc(p, func(x Point) bool { return x.X >= column })
	k := max(after, 1) // the first point begins the first line
	a, b := p[k-1], p[k]
	return a.Y + base.Rounded((b.Y-a.Y)*(column-a.X), b.X-a.X)
}

// Height returns the height at a column.
func Height(p Profile, column int) (int, api.Errno) {
	if e := base.FirstError(CheckProfile(p), checkColumn(column, p)); e != api.OK {
		return 0, e
	}
	return p.height(column), api.OK
}

// Area returns twice the area of a profile.
func Area(p Profile) (int, api.Errno) {
	if e := CheckProfile(p); e != api.OK {
		return 0, e
	}
	sum := 0
	for i, b := range p[1:] {
		a := p[i]
		sum += (b.X - a.X) * (a.Y + b.Y)
	}
	return sum, api.OK
}

// moved returns a moved profile, which may be out of the range of profiles.
func (p Profile) moved(by [2]int) Profile {
	moved := slices.Clone(p)
	for i := range moved {
		moved[i].X += by[0]
		moved[i].Y += by[1]
	}
	return moved
}

// Moved returns a moved profile.
func Moved(p Profile, by [2]int) (Profile, api.Errno) {
	if e := base.FirstError(CheckProfile(p), checkMove(by)); e != api.OK {
		return nil, e
	}
	moved := p.moved(by)
	if CheckProfile(moved) != api.OK {
		return nil, api.ErrLarge
	}
	return moved, api.OK
}

// Mirrored returns a mirrored profile.
func Mirrored(p Profile) (Profile, api.Errno) {
	if e := CheckProfile(p); e != api.OK {
		return nil, e
	}
	mirrored := slices.Clone(p)
	slices.Reverse(mirrored)
	for i := range mirrored {
		mirrored[i].X *= -1
	}
	return mirrored, api.OK
}

// direction returns the least step from a point to one on its right that stays on the
// straight line between both, and comes to points with integers.
func (a Point) direction(b Point) Point {
	d := base.CommonDivisor(b.Y-a.Y, b.X-a.X)
	return Point{(b.X - a.X) / d, (b.Y - a.Y) / d}
}

// isNeeded reports whether the line of a profile has an end or a bend at a point.
func (p Profile) isNeeded(i int) bool {
	if i == 0 || i == len(p)-1 {
		return true
	}
	return p[i-1].direction(p[i]) != p[i].direction(p[i+1])
}

// Plain returns a profile, made plain.
func Plain(p Profile) (Profile, api.Errno) {
	if e := CheckProfile(p); e != api.OK {
		return nil, e
	}
	var plain Profile
	for i, x := range p {
		if p.isNeeded(i) {
			plain = append(plain, x)
		}
	}
	return plain, api.OK
}
