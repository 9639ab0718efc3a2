package network

import (
	"versine/api"
	"versine/base"
	"versine/sample"
)

// CheckNetwork returns the first error of a network, or OK.
func CheckNetwork(n Network) api.Errno {
	d := directoryOf(n)
	return base.FirstError(
		base.ErrorIf(len(n.Lines) > MaxLines, api.ErrMany),
		checkLines(n.Lines),
		base.ErrorIf(len(n.Switches) > MaxSwitches, api.ErrMany),
		d.checkSwitches(n.Switches),
		base.ErrorIf(len(n.Structures) > MaxStructures, api.ErrMany),
		d.checkStructures(n.Structures),
	)
}

func checkLines(lines []Line) api.Errno {
	seen := base.Names{}
	return base.CheckEach(lines, func(l Line) api.Errno {
		return base.FirstError(
			checkName(l.Name),
			seen.CheckNext(l.Name),
			base.ErrorIf(len(l.Pieces) == 0, api.ErrEmpty),
			base.ErrorIf(len(l.Pieces) > MaxPieces, api.ErrMany),
			base.CheckEach(l.Pieces, checkPiece),
		)
	})
}

func checkPiece(p Piece) api.Errno {
	last := p.postOf(p.Length - 1)
	return base.FirstError(
		base.CheckBetween(p.Length, 1, MaxLength),
		base.CheckBetween(p.Post, 0, MaxPost),
		base.ErrorIf(last < 0 || last > MaxPost, api.ErrLarge),
	)
}

func (d directory) checkSwitches(switches []Switch) api.Errno {
	seen := base.Names{}
	return base.CheckEach(switches, func(s Switch) api.Errno {
		return base.FirstError(
			checkName(s.Name),
			seen.CheckNext(s.Name),
			d.checkPlace(Place{s.Line, s.Metre}),
			d.checkLine(s.Other),
			base.ErrorIf(s.Line == s.Other, api.ErrConflict),
		)
	})
}

func (d directory) checkStructures(structures []Structure) api.Errno {
	seen := base.Names{}
	return base.CheckEach(structures, func(s Structure) api.Errno {
		return base.FirstError(
			checkName(s.Name),
			seen.CheckNext(s.Name),
			base.ErrorIf(!sample.IsName(s.Kind), api.ErrKind),
			d.checkSpan(s.Line, s.Span),
		)
	})
}

func checkName(name string) api.Errno {
	return base.ErrorIf(!sample.IsName(name), api.ErrName)
}

// entry is a line with its index in the network, and its length.
type entry struct {
	Line
	index  int
	length int
}

// directory has the lines of a network by their names.
type directory map[string]entry

func directoryOf(n Network) directory {
	d := directory{}
	for i, l := range n.Lines {
		d[l.Name] = entry{l, i, lengthOf(l)}
	}
	return d
}

func (d directory) checkLine(line string) api.Errno {
	_, isKnown := d[line]
	return base.ErrorIf(!isKnown, api.ErrUnknown)
}

func (d directory) checkPlace(p Place) api.Errno {
	isThere := 0 <= p.Metre && p.Metre < d[p.Line].length
	return base.FirstError(d.checkLine(p.Line), base.ErrorIf(!isThere, api.ErrSpan))
}

func (d directory) checkSpan(line string, s api.Span) api.Errno {
	isThere := 0 <= s.From && s.From < s.To && s.To <= d[line].length
	return base.FirstError(d.checkLine(line), base.ErrorIf(!isThere, api.ErrSpan))
}
