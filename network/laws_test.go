package network_test

import (
	"math/rand/v2"
	"slices"
	"testing"

	"versine/api"
	"versine/network"
)

// TestOneAddressEach checks that each place has one address, and each address one place.
func TestOneAddressEach(t *testing.T) {
	g := source(20)
	for range 200 {
		n := someNetwork(g)
		placed := map[network.Address]network.Place{}
		for _, p := range places(n) {
			a, e := network.Addressed(n, p)
			if q, is := placed[a]; is {
				t.Errorf("the address %v of %v: both %v and %v have it", a, n, q, p)
			}
			placed[a] = p
			q, f := network.Placed(n, a)
			want(t, "Placed of Addressed", list(n, p, a, q, e, f), list(n, p, a, p, api.OK, api.OK))
		}
		for _, l := range n.Lines {
			for post := range 30 {
				posts, e := network.Posts(n, l.Name, post)
				for _, a := range posts {
					p, f := network.Placed(n, a)
					b, g := network.Addressed(n, p)
					want(t, "Addressed of Placed", list(n, a, b, e, f, g), list(n, a, a, api.OK, api.OK, api.OK))
				}
			}
		}
	}
}

// turned returns a way turned round.
func turned(way []network.Leg) []network.Leg {
	var l []network.Leg
	for _, x := range slices.Backward(way) {
		l = append(l, leg(x.Line, x.To, x.From))
	}
	return l
}

// wander returns a way from a place, with legs to any switches of the line.
func wander(g *rand.Rand, n network.Network, a network.Place) []network.Leg {
	var l []network.Leg
	at := a
	for range g.IntN(15) {
		var next [][2]network.Place
		for _, s := range n.Switches {
			x := ends(n, s)
			next = append(next, x, [2]network.Place{x[1], x[0]})
		}
		next = slices.DeleteFunc(next, func(x [2]network.Place) bool { return x[0].Line != at.Line })
		if len(next) == 0 {
			break
		}
		x := next[g.IntN(len(next))]
		l = append(l, leg(at.Line, at.Metre, x[0].Metre))
		at = x[1]
	}
	end := at
	for _, line := range n.Lines {
		if line.Name == at.Line {
			end.Metre = g.IntN(length(line))
		}
	}
	return append(l, leg(at.Line, at.Metre, end.Metre))
}

// TestWaysTurnedRound checks that a way turned round is a way of the same length, and that no way is shorter than the least one.
func TestWaysTurnedRound(t *testing.T) {
	g := source(21)
	crossed := 0
	for range 1500 {
		n := someNetwork(g)
		a := somePlace(g, n)
		way := wander(g, n, a)
		crossed += len(way) - 1
		last := way[len(way)-1]
		b := place(last.Line, last.To)
		there, e := network.CheckWay(n, a, b, way)
		back, f := network.CheckWay(n, b, a, turned(way))
		want(t, "CheckWay of a way turned round", list(n, way, back, e, f), list(n, way, there, api.OK, api.OK))
		least, k, e := network.Way(n, a, b)
		if k > there || len(least) > 9 || e != api.OK {
			t.Errorf("Way in %v from %v to %v: got %v, %v, %v, longer than %v, %v", n, a, b, least, k, e, way, there)
		}
		back, f = network.CheckWay(n, b, a, turned(least))
		want(t, "CheckWay of the least way turned round", list(n, least, back, f), list(n, least, k, api.OK))
	}
	if crossed < 1000 {
		t.Error("too few switches are crossed: ", crossed)
	}
}

// TestDistances checks that distances are symmetric, that no detour is shorter, and that what is reached is what has at most the distance.
func TestDistances(t *testing.T) {
	g := source(22)
	for range 500 {
		n := someNetwork(g)
		a, b, c := somePlace(g, n), somePlace(g, n), somePlace(g, n)
		_, ab, e1 := network.Way(n, a, b)
		_, ba, e2 := network.Way(n, b, a)
		want(t, "Way back", list(n, a, b, ba, e2), list(n, a, b, ab, e1))
		_, bc, e2 := network.Way(n, b, c)
		_, ac, e3 := network.Way(n, a, c)
		if e1 == api.OK && e2 == api.OK && (e3 != api.OK || ac > ab+bc) {
			t.Errorf("Way in %v from %v to %v: got %v, %v, more than %v and %v by %v", n, a, c, ac, e3, ab, bc, b)
		}
		most := g.IntN(20)
		reached, e := network.Reached(n, a, most)
		isReached := slices.ContainsFunc(reached, func(s network.Stretch) bool {
			return s.Line == b.Line && s.Span.From <= b.Metre && b.Metre < s.Span.To
		})
		want(t, "Reached", list(n, a, most, b, isReached, e), list(n, a, most, b, e1 == api.OK && ab <= most, api.OK))
	}
}

// TestMapsCarryBack checks that a map that is undone carries back what was carried, and nothing else.
func TestMapsCarryBack(t *testing.T) {
	g := source(23)
	for range 300 {
		n, k := someNetwork(g), someNetwork(g)
		m := someMap(g, n, k, 24)
		undone, e := network.Undone(m)
		want(t, "Undone", list(m, e, network.Fits(undone, k, n)), list(m, api.OK, api.OK))
		carried := 0
		for _, p := range places(n) {
			q, e := network.Carried(m, p)
			if e != api.OK {
				continue
			}
			carried++
			r, e := network.Carried(undone, q)
			want(t, "Carried back", list(m, q, r, e), list(m, q, p, api.OK))
		}
		for _, q := range places(k) {
			if _, e := network.Carried(undone, q); e == api.OK {
				carried--
			}
		}
		want(t, "what else is carried back", list(m, carried), list(m, 0))
		once, e1 := network.Shortened(m)
		twice, e2 := network.Undone(undone)
		want(t, "Undone twice", list(m, twice, e1, e2), list(m, once, api.OK, api.OK))
		twice, e2 = network.Shortened(once)
		want(t, "Shortened twice", list(m, twice, e2), list(m, once, api.OK))
		nothing, e := network.Composed(m, undone)
		want(t, "Composed with what undoes", list(m, carriage(nothing), e), list(m, both(carriage(m), carriage(undone)), api.OK))
	}
}

// TestComposedCarriesAsBoth checks that a composed map carries as both do, one after the other, and that the order in which maps are composed does not matter.
func TestComposedCarriesAsBoth(t *testing.T) {
	g := source(24)
	for range 300 {
		l := []network.Network{someNetwork(g), someNetwork(g), someNetwork(g), someNetwork(g)}
		a, b, c := someMap(g, l[0], l[1], 5), someMap(g, l[1], l[2], 5), someMap(g, l[2], l[3], 5)
		ab, e1 := network.Composed(a, b)
		bc, e2 := network.Composed(b, c)
		want(t, "Composed", list(a, b, c, e1, e2, network.Fits(ab, l[0], l[2])), list(a, b, c, api.OK, api.OK, api.OK))
		for _, p := range places(l[0]) {
			q, e := network.Carried(a, p)
			if e == api.OK {
				q, e = network.Carried(b, q)
			}
			got, f := network.Carried(ab, p)
			want(t, "Carried by a composed map", list(a, b, p, got, f), list(a, b, p, q, e))
		}
		left, e1 := network.Composed(ab, c)
		right, e2 := network.Composed(a, bc)
		want(t, "Composed of three", list(a, b, c, left, e1), list(a, b, c, right, e2))
	}
}

// TestDatesCarryBack checks that on the same day an address is itself, and that what is carried to another day is carried back.
func TestDatesCarryBack(t *testing.T) {
	g := source(25)
	carried := 0
	for range 300 {
		h := someHistory(g)
		day := h[0].Day + g.IntN(30)
		other := h[0].Day + g.IntN(30)
		from, e := network.On(h, day)
		to, f := network.On(h, other)
		want(t, "On", list(h, e, f, h[from].Day <= day, from <= to == (h[from].Day <= h[to].Day)), list(h, api.OK, api.OK, true, true))
		for _, l := range h[from].Network.Lines {
			for _, a := range addresses(l) {
				b, e := network.Since(h, day, a, day)
				want(t, "Since on the same day", list(h, day, a, b, e), list(h, day, a, a, api.OK))
				b, e = network.Since(h, day, a, other)
				if e != api.OK {
					continue
				}
				if from != to {
					carried++
				}
				c, e := network.Since(h, other, b, day)
				want(t, "Since and back", list(h, day, other, a, c, e), list(h, day, other, a, a, api.OK))
			}
		}
	}
	if carried < 300 {
		t.Error("too few addresses are carried: ", carried)
	}
}

// TestTextsComeBack checks that networks are parsed as they were printed.
func TestTextsComeBack(t *testing.T) {
	g := source(26)
	for range 300 {
		n := someNetwork(g)
		s, e := network.Print(n)
		back, line, f := network.Parse(s)
		want(t, "Parse of Print", list(n, e, back, line, f), list(n, api.OK, n, 0, api.OK))
		again, e := network.Print(back)
		want(t, "Print of Parse", list(n, again, e), list(n, text(n), api.OK))
	}
}
