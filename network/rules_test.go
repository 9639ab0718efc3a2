package network_test

import (
	"math"
	"math/rand/v2"
	"slices"
	"testing"

	"versine/api"
	"versine/network"
)

// guarded returns a list with room behind it, and whether nobody wrote into it or its room.
func guarded[T comparable](l []T, guard T) ([]T, func() bool) {
	room := append(slices.Clone(l), guard, guard, guard)
	before := slices.Clone(room)
	return room[:len(l)], func() bool { return slices.Equal(room, before) }
}

// TestMapsShareNoMemory checks of all functions that return maps that the arguments stay, and that results are new memory.
func TestMapsShareNoMemory(t *testing.T) {
	guard := move("z", 9, 9, "z", 9)
	for name, f := range map[string]func(m []network.Move) ([]network.Move, api.Errno){
		"Shortened": network.Shortened,
		"Undone":    network.Undone,
		"Composed": func(m []network.Move) ([]network.Move, api.Errno) {
			return network.Composed(m, []network.Move{move("main", 0, 300, "main", 0)})
		},
		"Composed behind": func(m []network.Move) ([]network.Move, api.Errno) {
			return network.Composed([]network.Move{move("up", 0, 180, "up", 0)}, m)
		},
	} {
		for _, m := range [][]network.Move{moved(), {move("up", 0, -1, "main", 5), move("up", 1, -1, "main", 4)}} {
			m, isSame := guarded(m, guard)
			first, e := f(m)
			want(t, name, list(e, isSame()), list(api.OK, true))
			kept := slices.Clone(first)
			again, _ := f(m)
			clear(first)
			want(t, name+" and spoiled", list(again, isSame()), list(kept, true))
			clear(m)
			want(t, name+" of a spoiled map", list(again), list(kept))
		}
	}
}

// TestListsShareNoMemory checks the same of the functions of other lists.
func TestListsShareNoMemory(t *testing.T) {
	for name, f := range map[string]func(n network.Network) []any{
		"Posts":    func(n network.Network) []any { return list(network.Posts(n, "up", 5090)) },
		"Branches": func(n network.Network) []any { return list(network.Branches(n, "up")) },
		"Way":      func(n network.Network) []any { return list(network.Way(n, place("up", 0), place("side", 9))) },
		"Reached":  func(n network.Network) []any { return list(network.Reached(n, place("up", 110), 20)) },
		"Print":    func(n network.Network) []any { return list(network.Print(n)) },
	} {
		n := shown()
		l := f(n)
		first := written(l)
		want(t, name+" keeps its argument", list(n), list(shown()))
		spoilNetwork(n)
		want(t, name+" of a spoiled network", list(written(l)), list(first))
		spoilResults(l)
		want(t, name+" again", f(shown()), f(shown()))
		want(t, name+" after spoiled results", list(written(f(shown()))), list(first))
	}
	n, _, e := network.Parse(shownText)
	spoilNetwork(n)
	n, _, f := network.Parse(shownText)
	want(t, "Parse again", list(n, e, f), list(shown(), api.OK, api.OK))
}

// spoilNetwork writes over all that a network has.
func spoilNetwork(n network.Network) {
	for _, l := range n.Lines {
		clear(l.Pieces)
	}
	clear(n.Lines)
	clear(n.Switches)
	clear(n.Structures)
}

// spoilResults writes over all lists of results.
func spoilResults(l []any) {
	for _, x := range l {
		switch x := x.(type) {
		case []network.Address:
			clear(x)
		case []string:
			clear(x)
		case []network.Leg:
			clear(x)
		case []network.Stretch:
			clear(x)
		}
	}
}

// anyInt, anyString, anyMoves, anyNetwork and anyHistory return arguments of any form.
func anyInt(g *rand.Rand) int {
	l := []int{math.MinInt, math.MinInt + 1, -1 << 31, -1, 0, 0, 1, 2, 3, 5, 7, 20, 9999999, 10000000, 100000, 800000, 800001, 100000000, 1 << 32, math.MaxInt - 1, math.MaxInt}
	return l[g.IntN(len(l))]
}

func anyString(g *rand.Rand) string {
	l := []string{"", "a", "b", "a", "b", "C", "d_1", "bridge", "tunnel", "9", "a b", "\xff", "abcdefghijklmnopqrstuvwxyz"}
	return l[g.IntN(len(l))]
}

func anyMoves(g *rand.Rand) []network.Move {
	var m []network.Move
	switch g.IntN(3) {
	case 0:
		for range g.IntN(4) {
			m = append(m, network.Move{Line: anyString(g), From: anyInt(g), Length: anyInt(g), Other: anyString(g), To: anyInt(g), Turned: g.IntN(2) == 0})
		}
	case 1:
		m = make([]network.Move, g.IntN(40))
	default:
		m = someMap(g, someNetwork(g), someNetwork(g), g.IntN(25))
	}
	return m
}

func anyNetwork(g *rand.Rand) network.Network {
	n := someNetwork(g)
	for range g.IntN(3) * g.IntN(3) {
		l := &n.Lines[g.IntN(len(n.Lines))]
		switch g.IntN(7) {
		case 0:
			l.Name = anyString(g)
		case 1:
			l.Pieces = make([]network.Piece, g.IntN(12))
		case 2:
			l.Pieces = append(l.Pieces, network.Piece{Length: anyInt(g), Post: anyInt(g), Back: g.IntN(2) == 0})
		case 3:
			n.Lines = append(n.Lines, make([]network.Line, g.IntN(9))...)
		case 4:
			n.Switches = append(n.Switches, network.Switch{Name: anyString(g), Line: anyString(g), Metre: anyInt(g), Other: anyString(g)})
		case 5:
			n.Structures = append(n.Structures, network.Structure{Name: anyString(g), Kind: anyString(g), Line: anyString(g), Span: span(anyInt(g), anyInt(g))})
		default:
			n.Switches, n.Structures = make([]network.Switch, g.IntN(12)), make([]network.Structure, g.IntN(20))
		}
	}
	return n
}

func anyHistory(g *rand.Rand) []network.Survey {
	h := someHistory(g)
	for range g.IntN(3) {
		s := &h[g.IntN(len(h))]
		switch g.IntN(4) {
		case 0:
			s.Day = anyInt(g)
		case 1:
			s.Network = anyNetwork(g)
		case 2:
			s.Map = anyMoves(g)
		default:
			h = make([]network.Survey, g.IntN(9)+1)
		}
	}
	return h[:g.IntN(len(h)+1)]
}

func anyText(g *rand.Rand) string {
	words := []string{"line", "piece", "switch", "structure", "up", "down", "first", "last", "a", "b", "0", "1", "01", "-1", "999999999", "9999999999", "", "\n", "\n", "\n", "\xff", "\x00", "é"}
	s := []string{"", "line a\npiece 1 0 up\n", shownText}[g.IntN(3)]
	for range g.IntN(12) {
		s += words[g.IntN(len(words))]
		if g.IntN(4) > 0 {
			s += " "
		}
	}
	return s
}

// allResults returns the results of all functions for arguments of any form, and these arguments.
func allResults(g *rand.Rand) (results, arguments []any) {
	add := func(l ...any) { results = append(results, l...) }
	n, other, m, k, h := anyNetwork(g), anyNetwork(g), anyMoves(g), anyMoves(g), anyHistory(g)
	a, b := place(anyString(g), anyInt(g)), place(anyString(g), anyInt(g))
	at := address(anyString(g), g.IntN(3), anyInt(g))
	at.Piece *= 1 - 2*g.IntN(2)
	way := []network.Leg{leg(a.Line, a.Metre, anyInt(g)), leg(b.Line, anyInt(g), b.Metre)}[:g.IntN(3)]
	x, y, s, u := anyInt(g), anyInt(g), anyString(g), anyText(g)
	add(network.CheckNetwork(n), network.CheckMap(m), network.Fits(m, n, other), network.CheckHistory(h))
	add(network.Length(n, s))
	add(network.Addressed(n, a))
	add(network.Placed(n, at))
	add(network.Posts(n, s, x))
	add(network.Branches(n, s))
	add(network.Way(n, a, b))
	add(network.CheckWay(n, a, b, way))
	add(network.Reached(n, a, x))
	add(network.Nearest(n, a, s))
	add(network.Carried(m, a))
	add(network.Shortened(m))
	add(network.Undone(m))
	add(network.Composed(m, k))
	add(network.On(h, x))
	add(network.Since(h, x, at, y))
	add(network.Print(n))
	add(network.Parse(u))
	return results, list(n, other, m, k, h, way)
}

// TestAnyArguments checks that no function panics or does not terminate, that each returns the same results again, and that none changes its arguments.
func TestAnyArguments(t *testing.T) {
	for seed := range uint64(1500) {
		results, arguments := allResults(source(seed))
		again, same := allResults(source(seed))
		want(t, "results again", list(seed, results, arguments), list(seed, again, same))
	}
	// The arguments are made again, without a call.
	g, k := source(5000), source(5000)
	for range 300 {
		n, h := anyNetwork(g), anyHistory(g)
		network.Print(n)
		network.Way(n, place("a", 0), place("b", 1))
		network.Branches(n, "a")
		network.Nearest(n, place("a", 0), "bridge")
		network.Since(h, 9, address("a", 0, 3), 12)
		network.Since(h, 12, address("a", 0, 3), 9)
		want(t, "arguments", list(n, h), list(anyNetwork(k), anyHistory(k)))
	}
}

// TestZeroBesideErrors checks that beside an error every other result is its zero value.
func TestZeroBesideErrors(t *testing.T) {
	g := source(30)
	for range 2000 {
		results, _ := allResults(g)
		var before []any
		for _, x := range results[4:] {
			e, isError := x.(api.Errno)
			if !isError {
				before = append(before, x)
				continue
			}
			if e != api.OK {
				want(t, "results beside an error", list(e, zeros(before)), list(e, before))
			}
			before = nil
		}
	}
}

// zeros returns the zero values of results; the index beside an error of Parse stays.
func zeros(l []any) []any {
	var out []any
	for _, x := range l {
		switch x.(type) {
		case int:
			if _, isNetwork := l[0].(network.Network); !isNetwork {
				x = 0
			}
		case string:
			x = ""
		case network.Address:
			x = network.Address{}
		case network.Place:
			x = network.Place{}
		case network.Network:
			x = network.Network{}
		case []network.Address:
			x = []network.Address{}
		case []string:
			x = []string{}
		case []network.Leg:
			x = []network.Leg{}
		case []network.Stretch:
			x = []network.Stretch{}
		case []network.Move:
			x = []network.Move{}
		}
		out = append(out, x)
	}
	return out
}
