package network_test

import (
	"fmt"
	"math/rand/v2"
	"strings"
	"testing"

	"versine/api"
	"versine/network"
)

// want reports results that differ from the expected ones.
func want(t *testing.T, what string, got, wanted []any) {
	t.Helper()
	if written(got) != written(wanted) {
		t.Errorf("%s: got %v, want %v", what, got, wanted)
	}
}

// written writes a value out; nil and empty lists are written alike.
func written(x any) string {
	return strings.ReplaceAll(fmt.Sprintf("%#v", x), "(nil)", "{}")
}

// list is results, to be compared.
func list(l ...any) []any { return l }

func span(from, to int) api.Span { return api.Span{From: from, To: to} }

func place(line string, metre int) network.Place { return network.Place{Line: line, Metre: metre} }

func address(line string, piece, post int) network.Address {
	return network.Address{Line: line, Piece: piece, Post: post}
}

func leg(line string, from, to int) network.Leg {
	return network.Leg{Line: line, From: from, To: to}
}

func stretch(line string, from, to int) network.Stretch {
	return network.Stretch{Line: line, Span: span(from, to)}
}

// move carries metres of a line to another one; turned round if the length is below 0.
func move(line string, from, length int, other string, to int) network.Move {
	return network.Move{Line: line, From: from, Length: max(length, -length), Other: other, To: to, Turned: length < 0}
}

func line(name string, pieces ...network.Piece) network.Line {
	return network.Line{Name: name, Pieces: pieces}
}

// piece has posts that run backwards if the length is below 0.
func piece(length, post int) network.Piece {
	return network.Piece{Length: max(length, -length), Post: post, Back: length < 0}
}

// shown is the network E of the chapter's examples, later that of example 6, moved the map M.
func shown() network.Network {
	return network.Network{
		Lines:      []network.Line{line("up", piece(100, 5000), piece(50, 5080), piece(-30, 5200)), line("side", piece(40, 0))},
		Switches:   []network.Switch{{Name: "w", Line: "up", Metre: 120, Other: "side"}},
		Structures: []network.Structure{{Name: "arch", Kind: "bridge", Line: "up", Span: span(130, 150)}},
	}
}

func later() network.Network {
	return network.Network{Lines: []network.Line{line("main", piece(300, 1000))}}
}

func moved() []network.Move {
	return []network.Move{move("up", 0, 100, "main", 20), move("up", 100, -50, "main", 200)}
}

// surveyed is the history of example 6.
func surveyed() []network.Survey {
	return []network.Survey{{Day: 10, Network: shown()}, {Day: 20, Network: later(), Map: moved()}}
}

// source returns numbers that are the same in each test run.
func source(seed uint64) *rand.Rand { return rand.New(rand.NewPCG(seed, 2)) }

// fault makes a value have an error.
type fault[T any] struct {
	e     api.Errno
	spoil func(x *T)
}

// bad is a value with an error.
type bad[T any] struct {
	x T
	e api.Errno
}

// spoiled returns for each fault a value that has it and all those behind it in the list, and one
// that has it alone. A fault may write over those behind it.
func spoiled[T any](good func() T, faults []fault[T]) []bad[T] {
	var l []bad[T]
	for i, f := range faults {
		all, one := good(), good()
		for k := len(faults) - 1; k >= i; k-- {
			faults[k].spoil(&all)
		}
		f.spoil(&one)
		l = append(l, bad[T]{all, f.e}, bad[T]{one, f.e})
	}
	return l
}

// badNetworks returns networks with each error, alone, and where those that are listed later are there, too.
func badNetworks() []bad[network.Network] {
	type n = network.Network
	many := func(pieces int) []network.Piece {
		var l []network.Piece
		for range pieces {
			l = append(l, piece(0, -1))
		}
		return l
	}
	return spoiled(shown, []fault[n]{
		{api.ErrMany, func(x *n) { x.Lines = append(x.Lines, make([]network.Line, 7)...) }},
		{api.ErrName, func(x *n) { x.Lines[0].Name = "1up" }},
		{api.ErrEmpty, func(x *n) { x.Lines[0].Pieces = nil }},
		{api.ErrMany, func(x *n) { x.Lines[0].Pieces = many(9) }},
		{api.ErrRange, func(x *n) { x.Lines[0].Pieces[2].Length = 100001 }},
		{api.ErrLarge, func(x *n) { x.Lines[0].Pieces[2] = piece(-30, 28) }},
		{api.ErrName, func(x *n) { x.Lines[1].Name = "" }},
		{api.ErrTwice, func(x *n) { x.Lines[1] = line("up") }},
		{api.ErrEmpty, func(x *n) { x.Lines[1] = line("side") }},
		{api.ErrMany, func(x *n) { x.Lines[1].Pieces = many(9) }},
		{api.ErrRange, func(x *n) { x.Lines[1].Pieces[0] = network.Piece{Length: 0, Post: -1} }},
		{api.ErrRange, func(x *n) { x.Lines[1].Pieces[0] = network.Piece{Length: -1, Post: 5} }},
		{api.ErrRange, func(x *n) { x.Lines[1].Pieces[0] = piece(100000, 10000000) }},
		{api.ErrRange, func(x *n) { x.Lines[1].Pieces[0] = piece(-100000, -1) }},
		{api.ErrLarge, func(x *n) { x.Lines[1].Pieces[0] = piece(100000, 9999999) }},
		{api.ErrMany, func(x *n) { x.Switches = append(x.Switches, make([]network.Switch, 8)...) }},
		{api.ErrName, func(x *n) { x.Switches[0] = network.Switch{Name: "w w"} }},
		{api.ErrUnknown, func(x *n) { x.Switches[0].Line, x.Switches[0].Other = "none", "none" }},
		{api.ErrSpan, func(x *n) { x.Switches[0].Metre, x.Switches[0].Other = 180, "none" }},
		{api.ErrUnknown, func(x *n) { x.Switches[0].Other = "none" }},
		{api.ErrConflict, func(x *n) { x.Switches[0].Other = "up" }},
		{api.ErrTwice, func(x *n) { x.Switches = append(x.Switches, network.Switch{Name: "w", Line: "none"}) }},
		{api.ErrMany, func(x *n) { x.Structures = append(x.Structures, make([]network.Structure, 16)...) }},
		{api.ErrName, func(x *n) { x.Structures[0] = network.Structure{Name: "-"} }},
		{api.ErrKind, func(x *n) { x.Structures[0].Kind, x.Structures[0].Line = "", "none" }},
		{api.ErrUnknown, func(x *n) { x.Structures[0].Line, x.Structures[0].Span = "none", span(5, 5) }},
		{api.ErrSpan, func(x *n) { x.Structures[0].Span = span(130, 181) }},
		{api.ErrTwice, func(x *n) { x.Structures = append(x.Structures, network.Structure{Name: "arch"}) }},
	})
}

// badMaps returns the same of maps.
func badMaps() []bad[[]network.Move] {
	type m = []network.Move
	return spoiled(moved, []fault[m]{
		{api.ErrMany, func(x *m) { *x = append(*x, make(m, 23)...) }},
		{api.ErrName, func(x *m) { (*x)[0].Line, (*x)[0].Other = "", "" }},
		{api.ErrName, func(x *m) { (*x)[0].Other = "a b" }},
		{api.ErrLarge, func(x *m) { (*x)[0].To = 800000 }},
		{api.ErrName, func(x *m) { (*x)[1].Line = "9" }},
		{api.ErrName, func(x *m) { (*x)[1].Other = "abcdefghijklmnopqrstuvwxy" }},
		{api.ErrRange, func(x *m) { (*x)[1].From = -1 }},
		{api.ErrRange, func(x *m) { (*x)[1].From = 800001 }},
		{api.ErrRange, func(x *m) { (*x)[1].Length = 0 }},
		{api.ErrRange, func(x *m) { (*x)[1].Length = 800001 }},
		{api.ErrRange, func(x *m) { (*x)[1].To = -1 }},
		{api.ErrRange, func(x *m) { (*x)[1].To = 800001 }},
		{api.ErrLarge, func(x *m) { (*x)[1].Line, (*x)[1].From = "a", 799951 }},
		{api.ErrLarge, func(x *m) { (*x)[1].To, (*x)[1].From = 799951, 99 }},
		{api.ErrOrder, func(x *m) { (*x)[1].From, (*x)[1].To = 99, 119 }},
		{api.ErrOverlap, func(x *m) { (*x)[1].To = 119 }},
	})
}

// badHistories returns the same of histories.
func badHistories() []bad[[]network.Survey] {
	type h = []network.Survey
	return spoiled(surveyed, []fault[h]{
		{api.ErrEmpty, func(x *h) { *x = nil }},
		{api.ErrMany, func(x *h) { *x = append(*x, make(h, 5)...) }},
		{api.ErrRange, func(x *h) { (*x)[0].Day = -1 }},
		{api.ErrMany, func(x *h) { (*x)[0].Network = badNetworks()[0].x }},
		{api.ErrMany, func(x *h) { (*x)[0].Map = badMaps()[0].x }},
		{api.ErrRule, func(x *h) { (*x)[0].Map = moved() }},
		{api.ErrRange, func(x *h) { (*x)[1].Day = 100001 }},
		{api.ErrOrder, func(x *h) { (*x)[1].Day = 10 }},
		{api.ErrEmpty, func(x *h) { (*x)[1].Network.Lines[0].Pieces = nil }},
		{api.ErrOverlap, func(x *h) { (*x)[1].Map[1].Other, (*x)[1].Map[1].To = "main", 20 }},
		{api.ErrUnknown, func(x *h) { (*x)[1].Map[0].Line = "a" }},
		{api.ErrSpan, func(x *h) { (*x)[1].Map[1].From = 131 }},
		{api.ErrUnknown, func(x *h) { (*x)[1].Map[1].Other = "up" }},
		{api.ErrSpan, func(x *h) { (*x)[1].Map[1].To = 251 }},
	})
}

// someNetwork returns a small network.
func someNetwork(g *rand.Rand) network.Network {
	var n network.Network
	for _, i := range g.Perm(4)[:1+g.IntN(4)] {
		l := line([]string{"b", "a", "C", "d_1"}[i])
		for range 1 + g.IntN(3) {
			p := piece(1+g.IntN(6), g.IntN(20))
			p.Back = g.IntN(2) == 0 && p.Post >= p.Length-1
			l.Pieces = append(l.Pieces, p)
		}
		n.Lines = append(n.Lines, l)
	}
	for i := range g.IntN(7) {
		a, b := g.IntN(len(n.Lines)), g.IntN(len(n.Lines))
		if a != b {
			n.Switches = append(n.Switches, network.Switch{Name: fmt.Sprint("w", i), Line: n.Lines[a].Name, Metre: g.IntN(length(n.Lines[a])), Other: n.Lines[b].Name, Last: g.IntN(2) == 0})
		}
	}
	for i := range g.IntN(5) {
		l := n.Lines[g.IntN(len(n.Lines))]
		from := g.IntN(length(l))
		to := from + 1 + g.IntN(length(l)-from)
		n.Structures = append(n.Structures, network.Structure{Name: fmt.Sprint("s", i), Kind: []string{"bridge", "tunnel"}[g.IntN(2)], Line: l.Name, Span: span(from, to)})
	}
	return n
}

func length(l network.Line) int {
	sum := 0
	for _, p := range l.Pieces {
		sum += p.Length
	}
	return sum
}

// places returns all places of a network.
func places(n network.Network) []network.Place {
	var l []network.Place
	for _, x := range n.Lines {
		for metre := range length(x) {
			l = append(l, place(x.Name, metre))
		}
	}
	return l
}

// somePlace returns a place of a network.
func somePlace(g *rand.Rand, n network.Network) network.Place {
	l := places(n)
	return l[g.IntN(len(l))]
}

// someMap returns a map of the lines of one network to those of another one. Moves often go on
// where the one before ended, in either direction.
func someMap(g *rand.Rand, a, b network.Network, most int) []network.Move {
	var m []network.Move
	taken := map[network.Place]bool{}
	for _, l := range sortedLines(a) {
		for from := g.IntN(3); from < length(l) && len(m) < most; {
			other := b.Lines[g.IntN(len(b.Lines))]
			x := move(l.Name, from, 1+g.IntN(3), other.Name, g.IntN(length(other)))
			x.Turned = g.IntN(2) == 0
			if k := len(m) - 1; k >= 0 && g.IntN(2) == 0 {
				x.Other, x.To = m[k].Other, m[k].To+[]int{-x.Length, m[k].Length}[g.IntN(2)]
			}
			if isFree(taken, l, b, x) {
				m = append(m, x)
				from += x.Length
			}
			from += g.IntN(5) / 3
		}
	}
	return m
}

// sortedLines returns the lines of a network by their names.
func sortedLines(n network.Network) []network.Line {
	var l []network.Line
	for _, name := range []string{"C", "a", "b", "d_1"} {
		for _, x := range n.Lines {
			if x.Name == name {
				l = append(l, x)
			}
		}
	}
	return l
}

// isFree reports whether a move fits and carries only to places that are not taken, and takes these.
func isFree(taken map[network.Place]bool, l network.Line, b network.Network, x network.Move) bool {
	if x.From+x.Length > length(l) {
		return false
	}
	isThere := map[network.Place]bool{}
	for _, p := range places(b) {
		isThere[p] = true
	}
	for i := range x.Length {
		if p := place(x.Other, x.To+i); !isThere[p] || taken[p] {
			return false
		}
	}
	for i := range x.Length {
		taken[place(x.Other, x.To+i)] = true
	}
	return true
}

// someHistory returns a history of small networks.
func someHistory(g *rand.Rand) []network.Survey {
	h := []network.Survey{{Day: g.IntN(10), Network: someNetwork(g)}}
	for range g.IntN(6) {
		last := h[len(h)-1]
		n := someNetwork(g)
		h = append(h, network.Survey{Day: last.Day + 1 + g.IntN(5), Network: n, Map: someMap(g, last.Network, n, 24)})
	}
	return h
}
