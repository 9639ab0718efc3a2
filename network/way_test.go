package network_test

import (
	"math"
	"slices"
	"testing"

	"versine/api"
	"versine/network"
)

// ends returns the two places that a switch joins.
func ends(n network.Network, s network.Switch) [2]network.Place {
	other := place(s.Other, 0)
	for _, l := range n.Lines {
		if l.Name == s.Other && s.Last {
			other.Metre = length(l) - 1
		}
	}
	return [2]network.Place{place(s.Line, s.Metre), other}
}

// distances walks a network from a place, metre by metre, and returns how far each place is.
func distances(n network.Network, a network.Place) map[network.Place]int {
	joined := map[network.Place][]network.Place{}
	for _, s := range n.Switches {
		x := ends(n, s)
		joined[x[0]] = append(joined[x[0]], x[1])
		joined[x[1]] = append(joined[x[1]], x[0])
	}
	isThere := map[network.Place]bool{}
	for _, p := range places(n) {
		isThere[p] = true
	}
	far := map[network.Place]int{}
	for distance, front := 0, []network.Place{a}; len(front) > 0; distance++ {
		var next []network.Place
		for i := 0; i < len(front); i++ { // what switches join is at the same distance
			p := front[i]
			if _, is := far[p]; is || !isThere[p] {
				continue
			}
			far[p] = distance
			front = append(front, joined[p]...)
			next = append(next, place(p.Line, p.Metre-1), place(p.Line, p.Metre+1))
		}
		front = next
	}
	return far
}

// ways returns all ways between two places that cross no switch twice.
func ways(n network.Network, a, b network.Place, crossed map[string]bool) [][]network.Leg {
	var out [][]network.Leg
	if a.Line == b.Line {
		out = append(out, []network.Leg{leg(a.Line, a.Metre, b.Metre)})
	}
	for _, s := range n.Switches {
		x := ends(n, s)
		if x[1].Line == a.Line {
			x = [2]network.Place{x[1], x[0]}
		}
		if x[0].Line != a.Line || crossed[s.Name] {
			continue
		}
		crossed[s.Name] = true
		for _, w := range ways(n, x[1], b, crossed) {
			out = append(out, append([]network.Leg{leg(a.Line, a.Metre, x[0].Metre)}, w...))
		}
		delete(crossed, s.Name)
	}
	return out
}

// rank returns numbers that order ways as they are compared.
func rank(n network.Network, way []network.Leg) []int {
	l := []int{0, len(way)}
	for _, x := range way {
		l[0] += max(x.From-x.To, x.To-x.From)
		index := slices.IndexFunc(n.Lines, func(l network.Line) bool { return l.Name == x.Line })
		l = append(l, index, x.From, x.To)
	}
	return l
}

// leastWay returns the least of all ways, its length, and the error.
func leastWay(n network.Network, a, b network.Place) ([]network.Leg, int, api.Errno) {
	all := ways(n, a, b, map[string]bool{})
	if len(all) == 0 {
		return nil, 0, api.ErrInfeasible
	}
	least := slices.MinFunc(all, func(x, y []network.Leg) int { return slices.Compare(rank(n, x), rank(n, y)) })
	return least, rank(n, least)[0], api.OK
}

func TestWay(t *testing.T) {
	for i, x := range []struct {
		a, b   network.Place
		way    []network.Leg
		length int
		e      api.Errno
	}{
		{place("up", 100), place("side", 10), []network.Leg{leg("up", 100, 120), leg("side", 0, 10)}, 30, api.OK},
		{place("side", 10), place("up", 100), []network.Leg{leg("side", 10, 0), leg("up", 120, 100)}, 30, api.OK},
		{place("up", 120), place("side", 0), []network.Leg{leg("up", 120, 120), leg("side", 0, 0)}, 0, api.OK},
		{place("side", 39), place("up", 179), []network.Leg{leg("side", 39, 0), leg("up", 120, 179)}, 98, api.OK},
		{place("side", 7), place("side", 7), []network.Leg{leg("side", 7, 7)}, 0, api.OK},
		{place("up", 179), place("up", 0), []network.Leg{leg("up", 179, 0)}, 179, api.OK},
		{place("up", 180), place("none", 0), nil, 0, api.ErrSpan},
		{place("up", -1), place("up", 0), nil, 0, api.ErrSpan},
		{place("none", -1), place("up", 180), nil, 0, api.ErrUnknown},
		{place("up", 0), place("none", 0), nil, 0, api.ErrUnknown},
		{place("up", 0), place("side", 40), nil, 0, api.ErrSpan},
	} {
		l, n, e := network.Way(shown(), x.a, x.b)
		want(t, "Way", list(i, l, n, e), list(i, x.way, x.length, x.e))
	}
	n := shown()
	n.Switches = nil
	l, k, e := network.Way(n, place("up", 100), place("side", 0))
	want(t, "Way where there is none", list(l, k, e), list([]network.Leg{}, 0, api.ErrInfeasible))
}

// crossing returns lines b, a, c and d of ten metres, with these switches.
func crossing(switches ...network.Switch) network.Network {
	var n network.Network
	for _, name := range []string{"b", "a", "c", "d"} {
		n.Lines = append(n.Lines, line(name, piece(10, 0)))
	}
	for i, s := range switches {
		s.Name = "w" + string(rune('a'+i))
		n.Switches = append(n.Switches, s)
	}
	return n
}

// joint is a switch of a metre and the first metre of a line, or the last one.
func joint(line string, metre int, other string, last bool) network.Switch {
	return network.Switch{Line: line, Metre: metre, Other: other, Last: last}
}

// TestWayOfSeveral checks which one of several ways is the least one.
func TestWayOfSeveral(t *testing.T) {
	for i, x := range []struct {
		n    network.Network
		a, b network.Place
		way  []network.Leg
	}{
		// Three legs of 1 metre rather than one of 9.
		{crossing(joint("a", 4, "b", false), joint("a", 5, "b", true)),
			place("b", 0), place("b", 9), []network.Leg{leg("b", 0, 0), leg("a", 4, 5), leg("b", 9, 9)}},
		// One leg of 9 metres rather than three of 9.
		{crossing(joint("b", 0, "a", false), joint("b", 9, "a", true)),
			place("b", 0), place("b", 9), []network.Leg{leg("b", 0, 9)}},
		// Two legs of no metres rather than three.
		{crossing(joint("c", 5, "a", false), joint("a", 0, "b", false), joint("c", 5, "b", false)),
			place("c", 5), place("b", 0), []network.Leg{leg("c", 5, 5), leg("b", 0, 0)}},
		// Along the line with the lesser index, which is not that with the lesser name.
		{crossing(joint("c", 5, "a", false), joint("c", 5, "b", false), joint("d", 3, "a", true), joint("d", 3, "b", true)),
			place("c", 5), place("d", 3), []network.Leg{leg("c", 5, 5), leg("b", 0, 9), leg("d", 3, 3)}},
		// To the lesser metre.
		{crossing(joint("a", 6, "c", false), joint("a", 2, "c", false)),
			place("a", 4), place("c", 3), []network.Leg{leg("a", 4, 2), leg("c", 0, 3)}},
		// From the lesser metre.
		{crossing(joint("c", 8, "a", false), joint("c", 2, "a", false)),
			place("a", 3), place("c", 5), []network.Leg{leg("a", 3, 0), leg("c", 2, 5)}},
		// The first leg decides before the second one.
		{crossing(joint("a", 8, "c", false), joint("a", 1, "c", true)),
			place("a", 4), place("c", 4), []network.Leg{leg("a", 4, 1), leg("c", 9, 4)}},
	} {
		l, _, e := network.Way(x.n, x.a, x.b)
		want(t, "Way", list(i, l, e), list(i, x.way, api.OK))
		l, _, e = leastWay(x.n, x.a, x.b)
		want(t, "the least of all ways", list(i, l, e), list(i, x.way, api.OK))
	}
}

// TestWayOfAll compares ways in small networks with the least one of all.
func TestWayOfAll(t *testing.T) {
	g := source(3)
	for range 200 {
		n := someNetwork(g)
		for range 20 {
			a, b := somePlace(g, n), somePlace(g, n)
			l, k, e := network.Way(n, a, b)
			way, size, wanted := leastWay(n, a, b)
			want(t, "Way", list(n, a, b, l, k, e), list(n, a, b, way, size, wanted))
			if e == api.OK {
				size, e := network.CheckWay(n, a, b, l)
				want(t, "CheckWay", list(n, a, b, size, e), list(n, a, b, k, api.OK))
			}
		}
	}
}

// ring returns eight lines of ten metres, the last one of each of which a switch joins to the first one of the next.
func ring() network.Network {
	var n network.Network
	for i := range 8 {
		name, next := string(rune('a'+i)), string(rune('a'+(i+1)%8))
		n.Lines = append(n.Lines, line(name, piece(10, 0)))
		n.Switches = append(n.Switches, network.Switch{Name: name, Line: name, Metre: 9, Other: next})
	}
	return n
}

// TestWayAcrossAllSwitches checks a way that crosses all switches.
func TestWayAcrossAllSwitches(t *testing.T) {
	n := ring()
	n.Lines[0].Pieces[0].Length = 100
	n.Switches[0].Metre = 99
	legs := []network.Leg{leg("a", 95, 99)}
	for i := 1; i < 8; i++ {
		legs = append(legs, leg(string(rune('a'+i)), 0, 9))
	}
	legs = append(legs, leg("a", 0, 5))
	l, k, e := network.Way(n, place("a", 95), place("a", 5))
	want(t, "Way", list(l, k, e), list(legs, 72, api.OK))
	k, e = network.CheckWay(n, place("a", 95), place("a", 5), l)
	want(t, "CheckWay", list(k, e), list(72, api.OK))
}

func TestCheckWay(t *testing.T) {
	n := crossing(joint("a", 4, "b", false), joint("b", 7, "c", true))
	a, b := place("a", 2), place("c", 8)
	way := []network.Leg{leg("a", 2, 4), leg("b", 0, 7), leg("c", 9, 8)}
	forth := []network.Leg{leg("a", 2, 4), leg("b", 0, 0), leg("a", 4, 4), leg("b", 0, 7), leg("c", 9, 8)}
	for i, x := range []struct {
		a, b   network.Place
		way    []network.Leg
		length int
		e      api.Errno
	}{
		{a, b, way, 10, api.OK},
		{a, b, forth, 10, api.OK},
		{a, b, []network.Leg{leg("a", 2, 4), leg("b", 0, 9), leg("c", 9, 8)}, 0, api.ErrProof},
		{a, b, []network.Leg{leg("a", 2, 4), leg("b", 1, 7), leg("c", 9, 8)}, 0, api.ErrProof},
		{a, b, []network.Leg{leg("a", 2, 4), leg("b", 0, 7), leg("c", 9, 9)}, 0, api.ErrProof},
		{a, b, []network.Leg{leg("a", 3, 4), leg("b", 0, 7), leg("c", 9, 8)}, 0, api.ErrProof},
		{a, b, []network.Leg{leg("b", 2, 7), leg("c", 9, 8)}, 0, api.ErrProof},
		{a, b, []network.Leg{leg("a", 2, 4), leg("b", 0, 8)}, 0, api.ErrProof},
		{a, b, []network.Leg{leg("a", 2, 3), leg("a", 3, 4), leg("b", 0, 7), leg("c", 9, 8)}, 0, api.ErrProof},
		{a, b, []network.Leg{leg("a", 2, 4), leg("c", 9, 8)}, 0, api.ErrProof},
		{b, a, way, 0, api.ErrProof},
		{b, a, []network.Leg{leg("c", 8, 9), leg("b", 7, 0), leg("a", 4, 2)}, 10, api.OK},
		{a, a, []network.Leg{leg("a", 2, 2)}, 0, api.OK},
		{a, a, []network.Leg{leg("a", 2, 5)}, 0, api.ErrProof},
		{a, place("a", 5), []network.Leg{leg("a", 2, 5)}, 3, api.OK},
		{a, a, []network.Leg{leg("a", 2, 4), leg("b", 0, 0), leg("a", 4, 2)}, 4, api.OK},
		{place("a", 10), place("none", 0), nil, 0, api.ErrSpan},
		{place("none", 10), place("none", 0), nil, 0, api.ErrUnknown},
		{a, place("c", 10), nil, 0, api.ErrSpan},
		{a, place("none", 10), nil, 0, api.ErrUnknown},
		{a, b, nil, 0, api.ErrEmpty},
		{a, b, make([]network.Leg, 17), 0, api.ErrMany},
		{a, b, make([]network.Leg, 16), 0, api.ErrUnknown},
		{a, b, []network.Leg{leg("b", 0, 10), leg("none", 0, 0)}, 0, api.ErrSpan},
		{a, b, []network.Leg{leg("b", -1, 0), leg("none", 0, 0)}, 0, api.ErrSpan},
		{a, b, []network.Leg{leg("b", 0, 0), leg("none", -1, 0)}, 0, api.ErrUnknown},
		{a, b, []network.Leg{leg("b", 0, math.MaxInt)}, 0, api.ErrSpan},
		{a, b, []network.Leg{leg("b", math.MinInt, 0)}, 0, api.ErrSpan},
	} {
		k, e := network.CheckWay(n, x.a, x.b, x.way)
		want(t, "CheckWay", list(i, k, e), list(i, x.length, x.e))
	}
	long := []network.Leg{}
	for range 8 {
		long = append(long, leg("a", 4, 4), leg("b", 0, 0))
	}
	k, e := network.CheckWay(n, place("a", 4), place("b", 0), long)
	want(t, "CheckWay of 16 legs", list(k, e), list(0, api.OK))
	k, e = network.CheckWay(n, place("a", 4), place("a", 4), append(long, leg("a", 4, 4)))
	want(t, "CheckWay of 17 legs", list(k, e), list(0, api.ErrMany))
}

func TestReached(t *testing.T) {
	for i, x := range []struct {
		a    network.Place
		most int
		l    []network.Stretch
		e    api.Errno
	}{
		{place("side", 5), 10, []network.Stretch{stretch("up", 115, 126), stretch("side", 0, 16)}, api.OK},
		{place("side", 5), 5, []network.Stretch{stretch("up", 120, 121), stretch("side", 0, 11)}, api.OK},
		{place("side", 5), 4, []network.Stretch{stretch("side", 1, 10)}, api.OK},
		{place("side", 5), 0, []network.Stretch{stretch("side", 5, 6)}, api.OK},
		{place("up", 120), 0, []network.Stretch{stretch("up", 120, 121), stretch("side", 0, 1)}, api.OK},
		{place("up", 0), 0, []network.Stretch{stretch("up", 0, 1)}, api.OK},
		{place("up", 179), 3, []network.Stretch{stretch("up", 176, 180)}, api.OK},
		{place("side", 39), 100000000, []network.Stretch{stretch("up", 0, 180), stretch("side", 0, 40)}, api.OK},
		{place("side", 39), 100000001, nil, api.ErrRange},
		{place("side", 39), -1, nil, api.ErrRange},
		{place("side", 40), -1, nil, api.ErrSpan},
		{place("none", 40), -1, nil, api.ErrUnknown},
	} {
		l, e := network.Reached(shown(), x.a, x.most)
		want(t, "Reached", list(i, l, e), list(i, x.l, x.e))
	}
	// Both ends of a line are reached: at last what is between them, too.
	n := crossing(joint("a", 4, "b", false), joint("a", 5, "b", true))
	for i, l := range [][]network.Stretch{
		{stretch("b", 0, 1), stretch("a", 4, 5)},
		{stretch("b", 0, 2), stretch("b", 9, 10), stretch("a", 3, 6)},
		{stretch("b", 0, 3), stretch("b", 8, 10), stretch("a", 2, 7)},
		{stretch("b", 0, 4), stretch("b", 7, 10), stretch("a", 1, 8)},
		{stretch("b", 0, 5), stretch("b", 6, 10), stretch("a", 0, 9)},
		{stretch("b", 0, 10), stretch("a", 0, 10)},
		{stretch("b", 0, 10), stretch("a", 0, 10)},
	} {
		got, e := network.Reached(n, place("a", 4), i)
		want(t, "Reached from both ends", list(i, got, e), list(i, l, api.OK))
	}
}

// TestReachedOfAll compares what is reached with what is walked to, metre by metre.
func TestReachedOfAll(t *testing.T) {
	g := source(4)
	for range 200 {
		n := someNetwork(g)
		a := somePlace(g, n)
		far := distances(n, a)
		for most := range 12 {
			var wanted []network.Stretch
			for _, p := range places(n) {
				distance, isReached := far[p]
				k := len(wanted) - 1
				switch {
				case !isReached || distance > most:
				case k >= 0 && wanted[k].Line == p.Line && wanted[k].Span.To == p.Metre:
					wanted[k].Span.To++
				default:
					wanted = append(wanted, stretch(p.Line, p.Metre, p.Metre+1))
				}
			}
			l, e := network.Reached(n, a, most)
			want(t, "Reached", list(n, a, most, l, e), list(n, a, most, wanted, api.OK))
		}
	}
}

func TestNearest(t *testing.T) {
	n := shown()
	n.Lines = append(n.Lines, line("yard", piece(10, 0)))
	n.Structures = append(n.Structures,
		network.Structure{Name: "b2", Kind: "bridge", Line: "up", Span: span(0, 10)},
		network.Structure{Name: "t", Kind: "tunnel", Line: "yard", Span: span(3, 4)},
		network.Structure{Name: "b3", Kind: "bridge", Line: "side", Span: span(30, 40)},
	)
	for i, x := range []struct {
		a        network.Place
		kind     string
		name     string
		distance int
		e        api.Errno
	}{
		{place("side", 5), "bridge", "arch", 15, api.OK},
		{place("side", 10), "bridge", "arch", 20, api.OK}, // b3 is as near, and behind it in the list
		{place("side", 11), "bridge", "b3", 19, api.OK},
		{place("side", 30), "bridge", "b3", 0, api.OK},
		{place("side", 39), "bridge", "b3", 0, api.OK},
		{place("up", 129), "bridge", "arch", 1, api.OK},
		{place("up", 130), "bridge", "arch", 0, api.OK},
		{place("up", 140), "bridge", "arch", 0, api.OK},
		{place("up", 149), "bridge", "arch", 0, api.OK},
		{place("up", 150), "bridge", "arch", 1, api.OK},
		{place("up", 179), "bridge", "arch", 30, api.OK},
		{place("up", 10), "bridge", "b2", 1, api.OK},
		{place("up", 0), "bridge", "b2", 0, api.OK},
		{place("yard", 9), "tunnel", "t", 6, api.OK},
		{place("yard", 0), "tunnel", "t", 3, api.OK},
		{place("yard", 0), "bridge", "", 0, api.ErrInfeasible},
		{place("up", 0), "tunnel", "", 0, api.ErrInfeasible},
		{place("up", 0), "arch", "", 0, api.ErrUnknown},
		{place("yard", 0), "Bridge", "", 0, api.ErrUnknown},
		{place("up", 0), "", "", 0, api.ErrName},
		{place("up", 180), "", "", 0, api.ErrSpan},
		{place("none", 180), "", "", 0, api.ErrUnknown},
	} {
		s, k, e := network.Nearest(n, x.a, x.kind)
		want(t, "Nearest", list(i, s, k, e), list(i, x.name, x.distance, x.e))
	}
	n.Structures[0].Line, n.Structures[0].Span = "yard", span(0, 1)
	s, k, e := network.Nearest(n, place("up", 100), "bridge")
	want(t, "Nearest where the first one is not reached", list(s, k, e), list("b3", 50, api.OK))
}

// TestNearestOfAll compares the nearest structures with the distances that are walked.
func TestNearestOfAll(t *testing.T) {
	g := source(5)
	for range 300 {
		n := someNetwork(g)
		a := somePlace(g, n)
		far := distances(n, a)
		for _, kind := range []string{"bridge", "tunnel", "ford"} {
			name, least, wanted := "", 0, api.ErrUnknown
			for _, s := range n.Structures {
				if s.Kind == kind && wanted == api.ErrUnknown {
					wanted = api.ErrInfeasible
				}
				for metre := s.Span.From; metre < s.Span.To && s.Kind == kind; metre++ {
					if k, is := far[place(s.Line, metre)]; is && (wanted != api.OK || k < least) {
						name, least, wanted = s.Name, k, api.OK
					}
				}
			}
			s, k, e := network.Nearest(n, a, kind)
			want(t, "Nearest", list(n, a, kind, s, k, e), list(n, a, kind, name, least, wanted))
		}
	}
}

// TestWaysOfBadNetworks checks that the error of the network is the first one.
func TestWaysOfBadNetworks(t *testing.T) {
	none := place("none", -1)
	for i, x := range badNetworks() {
		l, n, e := network.Way(x.x, none, none)
		want(t, "Way", list(i, l, n, e), list(i, []network.Leg{}, 0, x.e))
		n, e = network.CheckWay(x.x, none, none, nil)
		want(t, "CheckWay", list(i, n, e), list(i, 0, x.e))
		r, e := network.Reached(x.x, none, -1)
		want(t, "Reached", list(i, r, e), list(i, []network.Stretch{}, x.e))
		s, n, e := network.Nearest(x.x, none, "")
		want(t, "Nearest", list(i, s, n, e), list(i, "", 0, x.e))
	}
}
