package network_test

import (
	"cmp"
	"fmt"
	"maps"
	"math"
	"slices"
	"testing"

	"versine/api"
	"versine/network"
)

// carriage writes a map out: to where each place is carried, metre by metre.
func carriage(m []network.Move) map[network.Place]network.Place {
	to := map[network.Place]network.Place{}
	for _, x := range m {
		for i := range x.Length {
			k := i
			if x.Turned {
				k = x.Length - 1 - i
			}
			to[place(x.Line, x.From+i)] = place(x.Other, x.To+k)
		}
	}
	return to
}

// back returns what undoes a map that is written out.
func back(to map[network.Place]network.Place) map[network.Place]network.Place {
	out := map[network.Place]network.Place{}
	for p, q := range to {
		out[q] = p
	}
	return out
}

// both returns what carries by one map, and then by another one.
func both(first, second map[network.Place]network.Place) map[network.Place]network.Place {
	out := map[network.Place]network.Place{}
	for p, q := range first {
		if r, is := second[q]; is {
			out[p] = r
		}
	}
	return out
}

// short makes the moves of the short form from the least place on, metre by metre.
func short(to map[network.Place]network.Place) []network.Move {
	left := slices.SortedFunc(maps.Keys(to), func(p, q network.Place) int {
		return cmp.Or(cmp.Compare(p.Line, q.Line), cmp.Compare(p.Metre, q.Metre))
	})
	var m []network.Move
	for len(left) > 0 {
		p, q := left[0], to[left[0]]
		n, step := 1, 0
		for ; n < len(left); n++ {
			next := to[left[n]]
			if n == 1 && (next.Metre == q.Metre+1 || next.Metre == q.Metre-1) {
				step = next.Metre - q.Metre
			}
			if step == 0 || left[n] != place(p.Line, p.Metre+n) || next != place(q.Line, q.Metre+n*step) {
				break
			}
		}
		if step < 0 && n > 1 {
			m = append(m, move(p.Line, p.Metre, -n, q.Line, q.Metre-n+1))
		} else {
			m = append(m, move(p.Line, p.Metre, n, q.Line, q.Metre))
		}
		left = left[n:]
	}
	return m
}

func TestCheckMap(t *testing.T) {
	for i, x := range badMaps() {
		want(t, "CheckMap", list(i, network.CheckMap(x.x)), list(i, x.e))
	}
	for i, x := range []struct {
		m []network.Move
		e api.Errno
	}{
		{nil, api.OK},
		{moved(), api.OK},
		{[]network.Move{move("a", 0, 800000, "a", 0)}, api.OK},
		{[]network.Move{move("a", 799999, -1, "a", 799999)}, api.OK},
		{[]network.Move{move("a", 1, 800000, "a", 0)}, api.ErrLarge},
		{[]network.Move{move("a", 0, 800000, "a", 1)}, api.ErrLarge},
		{[]network.Move{move("a", 800000, 1, "a", 0)}, api.ErrLarge},
		{[]network.Move{move("a", 0, 1, "a", 800000)}, api.ErrLarge},
		{[]network.Move{move("a", math.MaxInt, 1, "a", 0)}, api.ErrRange},
		{[]network.Move{move("a", 0, math.MaxInt, "a", 0)}, api.ErrRange},
		{[]network.Move{move("a", math.MinInt, 1, "a", math.MinInt)}, api.ErrRange},
		{[]network.Move{{Line: "a", Length: -1, Other: "a"}}, api.ErrRange},
		// Lines are in the order of their bytes, in which capital letters come first.
		{[]network.Move{move("B", 5, 2, "x", 0), move("a", 0, 2, "x", 2)}, api.OK},
		{[]network.Move{move("a", 0, 2, "x", 2), move("B", 5, 2, "x", 0)}, api.ErrOrder},
		{[]network.Move{move("a", 0, 2, "x", 2), move("a1", 0, 2, "x", 0)}, api.OK},
		{[]network.Move{move("a", 5, 2, "x", 2), move("a", 3, 2, "x", 0)}, api.ErrOrder},
		{[]network.Move{move("a", 3, 2, "x", 2), move("a", 5, 2, "x", 0)}, api.OK},
		{[]network.Move{move("a", 3, 3, "x", 2), move("a", 5, 2, "x", 0)}, api.ErrOrder},
		// Where moves carry to may have any order, and touch, but not overlap.
		{[]network.Move{move("a", 0, 2, "x", 4), move("a", 2, 2, "x", 0), move("b", 0, -2, "x", 2)}, api.OK},
		{[]network.Move{move("a", 0, 2, "x", 4), move("a", 2, 2, "x", 0), move("b", 0, -2, "x", 3)}, api.ErrOverlap},
		{[]network.Move{move("a", 0, 2, "x", 4), move("a", 2, 2, "x", 0), move("b", 0, -2, "x", 1)}, api.ErrOverlap},
		{[]network.Move{move("a", 0, 2, "x", 4), move("a", 2, 2, "x", 0), move("b", 0, -2, "y", 1)}, api.OK},
		{[]network.Move{move("a", 0, 9, "x", 0), move("b", 0, 1, "x", 4)}, api.ErrOverlap},
		{[]network.Move{move("a", 0, 1, "x", 4), move("b", 0, 9, "x", 0)}, api.ErrOverlap},
		// A move may carry to places that another one carries away.
		{[]network.Move{move("a", 0, 5, "b", 0), move("b", 0, 5, "a", 0)}, api.OK},
		// The first move with an error decides.
		{[]network.Move{move("b", 0, 5, "x", 0), move("a", 0, 5, "x", 0), move("9", 0, 0, "", 0)}, api.ErrOrder},
		{[]network.Move{move("a", 0, 5, "x", 0), move("b", 0, 5, "x", 4), move("a", 0, 0, "", 0)}, api.ErrOverlap},
	} {
		want(t, "CheckMap", list(i, network.CheckMap(x.m)), list(i, x.e))
	}
	var m []network.Move
	for i := range 25 {
		want(t, "CheckMap of moves", list(i, network.CheckMap(m)), list(i, api.OK))
		m = append(m, move("a", 2*i, 1, "b", 3*i))
	}
	want(t, "CheckMap of 25 moves", list(network.CheckMap(m)), list(api.ErrMany))
}

func TestFits(t *testing.T) {
	for i, x := range []struct {
		m []network.Move
		e api.Errno
	}{
		{nil, api.OK},
		{moved(), api.OK},
		{[]network.Move{move("up", 0, 180, "main", 120)}, api.OK},
		{[]network.Move{move("up", 0, 181, "main", 119)}, api.ErrSpan},
		{[]network.Move{move("up", 180, 1, "none", 0)}, api.ErrSpan},
		{[]network.Move{move("up", 179, 1, "main", 299)}, api.OK},
		{[]network.Move{move("up", 0, 180, "main", 121)}, api.ErrSpan},
		{[]network.Move{move("up", 0, 180, "up", 121)}, api.ErrUnknown},
		{[]network.Move{move("main", 0, 180, "main", 121)}, api.ErrUnknown},
		{[]network.Move{move("side", 0, 40, "main", 0), move("up", 0, 9, "main", 40)}, api.OK},
		{[]network.Move{move("side", 0, 40, "main", 261), move("up", 0, 999, "none", 40)}, api.ErrSpan},
		{[]network.Move{move("side", 0, 40, "none", 0), move("up", 0, 999, "main", 40)}, api.ErrUnknown},
	} {
		want(t, "Fits", list(i, network.Fits(x.m, shown(), later())), list(i, x.e))
	}
	want(t, "Fits the other way round", list(network.Fits(moved(), later(), shown())), list(api.ErrUnknown))
	nothing := network.Network{}
	want(t, "Fits of nothing", list(network.Fits(nil, nothing, nothing)), list(api.OK))
	bad := badNetworks()
	for i, x := range badMaps() {
		want(t, "Fits of no map", list(i, network.Fits(x.x, bad[0].x, bad[1].x)), list(i, x.e))
	}
	for i, x := range bad {
		want(t, "Fits of a bad network", list(i, network.Fits(moved(), x.x, bad[3].x)), list(i, x.e))
		want(t, "Fits to a bad network", list(i, network.Fits([]network.Move{move("none", 0, 1, "none", 0)}, shown(), x.x)), list(i, x.e))
	}
}

func TestCarried(t *testing.T) {
	for i, x := range []struct {
		p, to network.Place
		e     api.Errno
	}{
		{place("up", 0), place("main", 20), api.OK}, {place("up", 99), place("main", 119), api.OK},
		{place("up", 100), place("main", 249), api.OK}, {place("up", 110), place("main", 239), api.OK},
		{place("up", 149), place("main", 200), api.OK},
		{place("up", 150), network.Place{}, api.ErrNone}, {place("main", 20), network.Place{}, api.ErrNone},
		{place("none", 0), network.Place{}, api.ErrNone}, {place("up", 800000), network.Place{}, api.ErrNone},
		{place("up", 800001), network.Place{}, api.ErrRange}, {place("up", -1), network.Place{}, api.ErrRange},
		{place("none", math.MaxInt), network.Place{}, api.ErrRange}, {place("up", math.MinInt), network.Place{}, api.ErrRange},
		{place("", -1), network.Place{}, api.ErrName}, {place("u p", 0), network.Place{}, api.ErrName},
	} {
		p, e := network.Carried(moved(), x.p)
		want(t, "Carried", list(i, p, e), list(i, x.to, x.e))
	}
	p, e := network.Carried(nil, place("up", 0))
	want(t, "Carried by nothing", list(p, e), list(network.Place{}, api.ErrNone))
	p, e = network.Carried([]network.Move{move("a", 0, 800000, "b", 0)}, place("a", 799999))
	want(t, "Carried of the last metre", list(p, e), list(place("b", 799999), api.OK))
}

func TestShortened(t *testing.T) {
	for i, x := range []struct{ m, short []network.Move }{
		{nil, nil},
		{moved(), moved()},
		{[]network.Move{move("a", 0, 1, "b", 9), move("a", 1, -2, "b", 7), move("a", 3, -1, "b", 3)},
			[]network.Move{move("a", 0, -3, "b", 7), move("a", 3, 1, "b", 3)}},
		// One metre is not turned.
		{[]network.Move{move("a", 5, -1, "b", 5)}, []network.Move{move("a", 5, 1, "b", 5)}},
		// Metres one by one, in either direction.
		{[]network.Move{move("a", 0, -1, "b", 5), move("a", 1, 1, "b", 6), move("a", 2, -1, "b", 7)}, []network.Move{move("a", 0, 3, "b", 5)}},
		{[]network.Move{move("a", 0, -1, "b", 7), move("a", 1, 1, "b", 6), move("a", 2, -1, "b", 5)}, []network.Move{move("a", 0, -3, "b", 5)}},
		// The second metre decides.
		{[]network.Move{move("a", 0, 1, "b", 5), move("a", 1, 1, "b", 4), move("a", 2, 1, "b", 6)},
			[]network.Move{move("a", 0, -2, "b", 4), move("a", 2, 1, "b", 6)}},
		{[]network.Move{move("a", 0, 2, "b", 5), move("a", 2, -2, "b", 7)},
			[]network.Move{move("a", 0, 2, "b", 5), move("a", 2, -2, "b", 7)}},
		{[]network.Move{move("a", 0, -2, "b", 5), move("a", 2, 1, "b", 4), move("a", 3, 2, "b", 7)},
			[]network.Move{move("a", 0, -3, "b", 4), move("a", 3, 2, "b", 7)}},
		{[]network.Move{move("a", 0, 2, "b", 5), move("a", 2, 2, "b", 7)}, []network.Move{move("a", 0, 4, "b", 5)}},
		{[]network.Move{move("a", 0, -2, "b", 7), move("a", 2, -2, "b", 5)}, []network.Move{move("a", 0, -4, "b", 5)}},
		// Not across metres that are not carried, nor to or from another line.
		{[]network.Move{move("a", 0, 2, "b", 5), move("a", 3, 2, "b", 7)}, []network.Move{move("a", 0, 2, "b", 5), move("a", 3, 2, "b", 7)}},
		{[]network.Move{move("a", 0, 2, "b", 5), move("a", 2, 2, "b", 8)}, []network.Move{move("a", 0, 2, "b", 5), move("a", 2, 2, "b", 8)}},
		{[]network.Move{move("a", 0, 2, "b", 5), move("a", 2, 2, "c", 7)}, []network.Move{move("a", 0, 2, "b", 5), move("a", 2, 2, "c", 7)}},
		{[]network.Move{move("a", 0, 2, "b", 5), move("b", 2, 2, "b", 7)}, []network.Move{move("a", 0, 2, "b", 5), move("b", 2, 2, "b", 7)}},
	} {
		m, e := network.Shortened(x.m)
		want(t, "Shortened", list(i, m, e), list(i, x.short, api.OK))
	}
}

func TestUndone(t *testing.T) {
	for i, x := range []struct{ m, undone []network.Move }{
		{nil, nil},
		{moved(), []network.Move{move("main", 20, 100, "up", 0), move("main", 200, -50, "up", 100)}},
		{[]network.Move{move("a", 0, 3, "z", 7), move("b", 9, -2, "z", 0), move("c", 4, 1, "Z", 99)},
			[]network.Move{move("Z", 99, 1, "c", 4), move("z", 0, -2, "b", 9), move("z", 7, 3, "a", 0)}},
		{[]network.Move{move("a", 0, 2, "b", 5), move("a", 2, 2, "b", 7)}, []network.Move{move("b", 5, 4, "a", 0)}},
		{[]network.Move{move("a", 7, -1, "b", 5)}, []network.Move{move("b", 5, 1, "a", 7)}},
	} {
		m, e := network.Undone(x.m)
		want(t, "Undone", list(i, m, e), list(i, x.undone, api.OK))
	}
}

func TestComposed(t *testing.T) {
	old := []network.Move{move("main", 0, 60, "old", 500)}
	for i, x := range []struct{ a, b, c []network.Move }{
		{moved(), old, []network.Move{move("up", 0, 40, "old", 520)}},
		{old, moved(), nil},
		{nil, moved(), nil},
		{moved(), nil, nil},
		{moved(), []network.Move{move("main", 0, 300, "main", 0)}, moved()},
		{moved(), []network.Move{move("main", 0, -300, "main", 0)},
			[]network.Move{move("up", 0, -100, "main", 180), move("up", 100, 50, "main", 50)}},
		{[]network.Move{move("a", 0, -10, "b", 0)}, []network.Move{move("b", 2, -3, "c", 0), move("b", 5, 2, "d", 0)},
			[]network.Move{move("a", 3, -2, "d", 0), move("a", 5, 3, "c", 0)}},
		{[]network.Move{move("a", 0, 2, "b", 8), move("a", 2, 2, "b", 0)}, []network.Move{move("b", 0, 2, "c", 2), move("b", 8, 2, "c", 0)},
			[]network.Move{move("a", 0, 4, "c", 0)}},
		{[]network.Move{move("a", 0, 5, "b", 0)}, []network.Move{move("b", 4, 5, "c", 7)}, []network.Move{move("a", 4, 1, "c", 7)}},
		{[]network.Move{move("a", 0, 4, "b", 0)}, []network.Move{move("b", 4, 5, "c", 7)}, nil},
	} {
		m, e := network.Composed(x.a, x.b)
		want(t, "Composed", list(i, m, e), list(i, x.c, api.OK))
	}
}

// TestComposedOfMany checks that only the moves of the short form are counted.
func TestComposedOfMany(t *testing.T) {
	var b []network.Move
	for i := range 24 {
		b = append(b, move("b", 4*i, 2, "c", 5*i))
	}
	for i, x := range []struct {
		a, c []network.Move
		e    api.Errno
	}{
		{[]network.Move{move("a", 0, 100, "b", 0)}, renamed(b, "a"), api.OK},
		{[]network.Move{move("a", 0, 1, "b", 0), move("a", 1, 99, "b", 1)}, renamed(b, "a"), api.OK},
		{[]network.Move{move("a", 0, 1, "b", 0), move("a", 2, 99, "b", 1)}, nil, api.ErrMany},
	} {
		m, e := network.Composed(x.a, b)
		want(t, "Composed", list(i, m, e), list(i, x.c, x.e))
	}
}

// renamed returns moves that carry another line.
func renamed(m []network.Move, line string) []network.Move {
	m = slices.Clone(m)
	for i := range m {
		m[i].Line = line
	}
	return m
}

// TestMapsOfAll compares maps of small networks with what is written out, metre by metre.
func TestMapsOfAll(t *testing.T) {
	g := source(6)
	moves := 0
	for range 400 {
		n, k, o := someNetwork(g), someNetwork(g), someNetwork(g)
		a, b := someMap(g, n, k, 24), someMap(g, k, o, 24)
		moves += len(a) + len(b)
		to, on := carriage(a), carriage(b)
		want(t, "Fits", list(a, n, k, network.CheckMap(a), network.Fits(a, n, k)), list(a, n, k, api.OK, api.OK))
		for _, p := range append(places(n), place("b", 800000), place("z", 0)) {
			q, is := to[p]
			got, e := network.Carried(a, p)
			want(t, "Carried", list(a, p, got, e == api.OK), list(a, p, q, is))
		}
		m, e := network.Shortened(a)
		want(t, "Shortened", list(a, m, e), list(a, short(to), api.OK))
		m, e = network.Undone(a)
		want(t, "Undone", list(a, m, e), list(a, short(back(to)), api.OK))
		m, e = network.Composed(a, b)
		wanted, many := short(both(to, on)), api.OK
		if len(wanted) > 24 {
			wanted, many = nil, api.ErrMany
		}
		want(t, "Composed", list(a, b, m, e), list(a, b, wanted, many))
	}
	if moves < 2000 {
		t.Error("too few moves: ", moves)
	}
}

// TestMapsOfBadMaps checks that the error of the map is the first one.
func TestMapsOfBadMaps(t *testing.T) {
	none := []network.Move{}
	for i, x := range badMaps() {
		p, e := network.Carried(x.x, place("", -1))
		want(t, "Carried", list(i, p, e), list(i, network.Place{}, x.e))
		for name, f := range map[string]func() ([]network.Move, api.Errno){
			"Shortened":       func() ([]network.Move, api.Errno) { return network.Shortened(x.x) },
			"Undone":          func() ([]network.Move, api.Errno) { return network.Undone(x.x) },
			"Composed":        func() ([]network.Move, api.Errno) { return network.Composed(x.x, badMaps()[1].x) },
			"Composed behind": func() ([]network.Move, api.Errno) { return network.Composed(moved(), x.x) },
		} {
			m, e := f()
			want(t, fmt.Sprint(name, i), list(m, e), list(none, x.e))
		}
	}
}
