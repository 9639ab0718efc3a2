package network

import (
	"cmp"
	"iter"
	"slices"

	"versine/api"
	"versine/base"
)

// postOf returns the post of a metre of a piece.
func (p Piece) postOf(metre int) int {
	if p.Back {
		return p.Post - metre
	}
	return p.Post + metre
}

// metreOf returns the metre of a piece that has a post, and whether one has it.
func (p Piece) metreOf(post int) (int, bool) {
	metre := post - p.Post
	if p.Back {
		metre = -metre
	}
	return metre, 0 <= metre && metre < p.Length
}

// section is a piece with its index in its line, and its first metre there.
type section struct {
	Piece
	index int
	first int
}

// sections visits the pieces of a line, each with its metres.
func sections(l Line) iter.Seq[section] {
	return func(yield func(section) bool) {
		first := 0
		for i := range len(l.Pieces) {
			if !yield(section{l.Pieces[i], i, first}) {
				return
			}
			first += l.Pieces[i].Length
		}
	}
}

// lengthOf returns the length of a line.
func lengthOf(l Line) int {
	length := 0
	for s := range sections(l) {
		length = s.first + s.Length
	}
	return length
}

// Length returns the length of a line.
func Length(n Network, line string) (int, api.Errno) {
	d := directoryOf(n)
	if e := base.FirstError(CheckNetwork(n), d.checkLine(line)); e != api.OK {
		return 0, e
	}
	return d[line].length, api.OK
}

// Addressed returns the address of a place.
func Addressed(n Network, p Place) (Address, api.Errno) {
	d := directoryOf(n)
	if e := base.FirstError(CheckNetwork(n), d.checkPlace(p)); e != api.OK {
		return Address{}, e
	}
	return d.addressOf(p), api.OK
}

// addressOf returns the address of a place that is there.
func (d directory) addressOf(p Place) Address {
	var a Address
	for s := range sections(d[p.Line].Line) {
		if s.first <= p.Metre {
			a = Address{p.Line, s.index, s.postOf(p.Metre - s.first)}
		}
	}
	return a
}

// Placed returns the place of an address.
func Placed(n Network, a Address) (Place, api.Errno) {
	if e := CheckNetwork(n); e != api.OK {
		return Place{}, e
	}
	return directoryOf(n).placeOf(a)
}

// placeOf returns the place of an address, or the first error of the address.
func (d directory) placeOf(a Address) (Place, api.Errno) {
	if e := d.checkLine(a.Line); e != api.OK {
		return Place{}, e
	}
	for s := range sections(d[a.Line].Line) {
		if s.index != a.Piece {
			continue
		}
		metre, isThere := s.metreOf(a.Post)
		if !isThere {
			return Place{}, api.ErrSpan
		}
		return Place{a.Line, s.first + metre}, api.OK
	}
	return Place{}, api.ErrNone
}

// Posts returns all addresses of a line with a post.
func Posts(n Network, line string, post int) ([]Address, api.Errno) {
	d := directoryOf(n)
	e := base.FirstError(CheckNetwork(n), d.checkLine(line), base.CheckBetween(post, 0, MaxPost))
	if e != api.OK {
		return nil, e
	}
	var l []Address
	for s := range sections(d[line].Line) {
		if _, isThere := s.metreOf(post); isThere {
			l = append(l, Address{line, s.index, post})
		}
	}
	return l, api.OK
}

// branch is a switch, and the metre at which it joins a line.
type branch struct {
	name  string
	metre int
}

// Branches returns the switches of a line.
func Branches(n Network, line string) ([]string, api.Errno) {
	d := directoryOf(n)
	if e := base.FirstError(CheckNetwork(n), d.checkLine(line)); e != api.OK {
		return nil, e
	}
	var l []branch
	for _, s := range n.Switches {
		for _, end := range d.endsOf(s) {
			if end.Line == line {
				l = append(l, branch{s.Name, end.Metre})
			}
		}
	}
	slices.SortStableFunc(l, func(a, b branch) int { return cmp.Compare(a.metre, b.metre) })
	return base.Mapped(l, func(b branch) string { return b.name }), api.OK
}
