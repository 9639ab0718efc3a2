package network

import (
	"cmp"
	"slices"

	"versine/api"
	"versine/base"
)

// end returns the metre behind those that a move carries.
func (m Move) end() int { return m.From + m.Length }

// toEnd returns the metre behind those to which a move carries.
func (m Move) toEnd() int { return m.To + m.Length }

// compare compares moves by the first place that each carries.
func (m Move) compare(other Move) int {
	return cmp.Or(cmp.Compare(m.Line, other.Line), cmp.Compare(m.From, other.From))
}

// meets reports whether two moves carry to the same metre.
func (m Move) meets(other Move) bool {
	return m.Other == other.Other && m.To < other.toEnd() && other.To < m.toEnd()
}

// CheckMap returns the first error of a map, or OK.
func CheckMap(m []Move) api.Errno {
	if len(m) > MaxMoves {
		return api.ErrMany
	}
	for i, x := range m {
		if e := checkMove(m[:i], x); e != api.OK {
			return e
		}
	}
	return api.OK
}

// checkMove returns the first error of a move behind others of a map.
func checkMove(before []Move, m Move) api.Errno {
	return base.FirstError(
		checkName(m.Line),
		checkName(m.Other),
		base.CheckBetween(m.From, 0, MaxMetres),
		base.CheckBetween(m.Length, 1, MaxMetres),
		base.CheckBetween(m.To, 0, MaxMetres),
		base.ErrorIf(max(m.end(), m.toEnd()) > MaxMetres, api.ErrLarge),
		base.ErrorIf(!follows(before, m), api.ErrOrder),
		base.ErrorIf(slices.ContainsFunc(before, m.meets), api.ErrOverlap),
	)
}

// follows reports whether a move carries only places behind those of the moves
// before it.
func follows(before []Move, m Move) bool {
	if len(before) == 0 {
		return true
	}
	last := before[len(before)-1]
	return last.Line < m.Line || last.Line == m.Line && last.end() <= m.From
}

// Fits returns OK for a map of one network to another one.
func Fits(m []Move, a, b Network) api.Errno {
	if e := base.FirstError(CheckMap(m), CheckNetwork(a), CheckNetwork(b)); e != api.OK {
		return e
	}
	from, to := directoryOf(a), directoryOf(b)
	return base.CheckEach(m, func(x Move) api.Errno {
		return base.FirstError(
			from.checkSpan(x.Line, api.Span{From: x.From, To: x.end()}),
			to.checkSpan(x.Other, api.Span{From: x.To, To: x.toEnd()}),
		)
	})
}

// Carried returns the place to which a map carries a place.
func Carried(m []Move, p Place) (Place, api.Errno) {
	e := base.FirstError(CheckMap(m), checkName(p.Line), base.CheckBetween(p.Metre, 0, MaxMetres))
	if e != api.OK {
		return Place{}, e
	}
	to, isCarried := carriedBy(m, p)
	return to, base.ErrorIf(!isCarried, api.ErrNone)
}

// carriedBy returns the place to which moves carry a place, and whether one does.
func carriedBy(moves []Move, p Place) (Place, bool) {
	for _, m := range moves {
		if p.Line == m.Line && m.From <= p.Metre && p.Metre < m.end() {
			part := m.part(api.Span{From: p.Metre, To: p.Metre + 1})
			return Place{part.Other, part.To}, true
		}
	}
	return Place{}, false
}

// part returns the part of a move that carries these of its metres.
func (m Move) part(metres api.Span) Move {
	to := m.To + metres.From - m.From
	if m.Turned {
		to = m.To + m.end() - metres.To
	}
	return Move{m.Line, metres.From, metres.To - metres.From, m.Other, to, m.Turned}
}

// undone returns the move that carries back what a move carries.
func (m Move) undone() Move {
	return Move{m.Other, m.To, m.Length, m.Line, m.From, m.Turned}
}

// allUndone returns the moves that carry back what moves carry.
func allUndone(moves []Move) []Move { return base.Mapped(moves, Move.undone) }

// Shortened returns the short form of a map.
func Shortened(m []Move) ([]Move, api.Errno) {
	if e := CheckMap(m); e != api.OK {
		return nil, e
	}
	return shortForm(m)
}

// Undone returns the map that undoes a map.
func Undone(m []Move) ([]Move, api.Errno) {
	if e := CheckMap(m); e != api.OK {
		return nil, e
	}
	return shortForm(allUndone(m))
}

// Composed returns the map that carries by one map, and then by another one.
func Composed(a, b []Move) ([]Move, api.Errno) {
	if e := base.FirstError(CheckMap(a), CheckMap(b)); e != api.OK {
		return nil, e
	}
	var moves []Move
	for _, x := range a {
		for _, y := range b {
			if m, isAny := x.then(y); isAny {
				moves = append(moves, m)
			}
		}
	}
	return shortForm(moves)
}

// then returns the move that carries by one move, and then by another one, and
// whether it carries anything.
func (m Move) then(next Move) (Move, bool) {
	between := api.Span{From: max(m.To, next.From), To: min(m.toEnd(), next.end())}
	if m.Other != next.Line || between.From >= between.To {
		return Move{}, false
	}
	first, second := m.undone().part(between).undone(), next.part(between)
	return Move{first.Line, first.From, first.Length, second.Other, second.To, first.Turned != second.Turned}, true
}

// shortForm returns the short form of a map whose moves have any order, or ErrMany.
func shortForm(moves []Move) ([]Move, api.Errno) {
	sorted := make([]Move, len(moves))
	copy(sorted, moves)
	slices.SortFunc(sorted, Move.compare)
	var short []Move
	for _, m := range sorted {
		m.Turned = m.Turned && m.Length > 1
		k := len(short) - 1
		if k < 0 || !short[k].extend(m) {
			short = append(short, m)
		}
	}
	if len(short) > MaxMoves {
		return nil, api.ErrMany
	}
	return short, api.OK
}

// extend makes a move carry also what the next one of its map carries, and reports
// whether one move can. It can all of this or nothing: if the first metre of the
// next move goes on where this one ends, but not the second one, both moves would
// carry to the same metre.
func (m *Move) extend(next Move) bool {
	if next.Line != m.Line || next.From != m.end() || next.Other != m.Other {
		return false
	}
	switch {
	case next.To == m.toEnd() && m.canBe(false) && next.canBe(false):
		m.Turned = false
	case next.toEnd() == m.To && m.canBe(true) && next.canBe(true):
		m.Turned = true
		m.To = next.To
	default:
		return false
	}
	m.Length += next.Length
	return true
}

// canBe reports whether a move is turned, or not, as is asked; one metre is both.
func (m Move) canBe(turned bool) bool { return m.Length == 1 || m.Turned == turned }
