package network_test

import (
	"math"
	"slices"
	"testing"

	"versine/api"
	"versine/network"
)

func TestCheckHistory(t *testing.T) {
	for i, x := range badHistories() {
		want(t, "CheckHistory", list(i, network.CheckHistory(x.x)), list(i, x.e))
	}
	for i, x := range badNetworks() {
		h := surveyed()
		h[1].Network, h[1].Map = x.x, badMaps()[0].x
		want(t, "CheckHistory of a bad network", list(i, network.CheckHistory(h)), list(i, x.e))
	}
	for i, x := range badMaps() {
		h := surveyed()
		h[1].Map = x.x
		want(t, "CheckHistory of a bad map", list(i, network.CheckHistory(h)), list(i, x.e))
		h[0].Map = x.x
		want(t, "CheckHistory of a bad first map", list(i, network.CheckHistory(h)), list(i, x.e))
	}
	want(t, "CheckHistory", list(network.CheckHistory(surveyed())), list(api.OK))
	g := source(7)
	for range 100 {
		h := someHistory(g)
		want(t, "CheckHistory", list(h, network.CheckHistory(h)), list(h, api.OK))
	}
}

// daily returns surveys of one network on these days, without maps.
func daily(days ...int) []network.Survey {
	var h []network.Survey
	for _, day := range days {
		h = append(h, network.Survey{Day: day, Network: later()})
	}
	return h
}

func TestCheckDays(t *testing.T) {
	for i, x := range []struct {
		days []int
		e    api.Errno
	}{
		{[]int{0}, api.OK}, {[]int{100000}, api.OK}, {[]int{-1}, api.ErrRange}, {[]int{100001}, api.ErrRange},
		{[]int{math.MinInt}, api.ErrRange}, {[]int{0, math.MaxInt}, api.ErrRange},
		{[]int{0, 1, 2, 3, 4, 100000}, api.OK}, {[]int{0, 1, 2, 3, 4, 5, 6}, api.ErrMany},
		{[]int{5, 5}, api.ErrOrder}, {[]int{5, 4}, api.ErrOrder}, {[]int{5, 0}, api.ErrOrder}, {[]int{5, 6, 6, 100001}, api.ErrOrder}, {[]int{5, -1}, api.ErrRange},
		{nil, api.ErrEmpty},
	} {
		want(t, "CheckHistory", list(i, network.CheckHistory(daily(x.days...))), list(i, x.e))
	}
	h := daily(5)
	h[0].Map = []network.Move{move("main", 0, 1, "main", 0)}
	want(t, "CheckHistory of a first map", list(network.CheckHistory(h)), list(api.ErrRule))
	h = daily(5, 6)
	h[1].Map = []network.Move{move("main", 0, 301, "main", 0)}
	want(t, "CheckHistory of a map that does not fit", list(network.CheckHistory(h)), list(api.ErrSpan))
}

func TestOn(t *testing.T) {
	for i, x := range []struct {
		day, index int
		e          api.Errno
	}{
		{10, 0, api.OK}, {11, 0, api.OK}, {19, 0, api.OK}, {20, 1, api.OK}, {21, 1, api.OK}, {30, 2, api.OK}, {100000, 2, api.OK},
		{9, 0, api.ErrNone}, {0, 0, api.ErrNone}, {-1, 0, api.ErrRange}, {100001, 0, api.ErrRange},
		{math.MinInt, 0, api.ErrRange}, {math.MaxInt, 0, api.ErrRange},
	} {
		k, e := network.On(daily(10, 20, 30), x.day)
		want(t, "On", list(i, k, e), list(i, x.index, x.e))
	}
	k, e := network.On(daily(0), 0)
	want(t, "On the day 0", list(k, e), list(0, api.OK))
}

func TestSince(t *testing.T) {
	none := network.Address{}
	for i, x := range []struct {
		day   int
		a     network.Address
		other int
		to    network.Address
		e     api.Errno
	}{
		{15, address("up", 1, 5090), 25, address("main", 0, 1239), api.OK},
		{25, address("main", 0, 1239), 10, address("up", 1, 5090), api.OK},
		{10, address("up", 1, 5090), 20, address("main", 0, 1239), api.OK},
		{19, address("up", 0, 5090), 20, address("main", 0, 1110), api.OK},
		{20, address("main", 0, 1020), 19, address("up", 0, 5000), api.OK},
		{10, address("up", 2, 5171), 19, address("up", 2, 5171), api.OK},
		{20, address("main", 0, 1299), 100000, address("main", 0, 1299), api.OK},
		{15, address("up", 2, 5171), 25, none, api.ErrNone},
		{25, address("main", 0, 1000), 15, none, api.ErrNone},
		{25, address("main", 0, 1120), 15, none, api.ErrNone},
		{15, address("side", 0, 0), 20, none, api.ErrNone},
		{15, address("side", 0, 0), 9, none, api.ErrNone},
		// The errors of the first day, of the address on it, and of the other day.
		{-1, address("none", 0, 0), -1, none, api.ErrRange},
		{100001, address("none", 0, 0), 9, none, api.ErrRange},
		{9, address("none", 0, 0), -1, none, api.ErrNone},
		{15, address("main", 0, 1239), -1, none, api.ErrUnknown},
		{20, address("up", 1, 5090), -1, none, api.ErrUnknown},
		{15, address("up", 3, 5090), -1, none, api.ErrNone},
		{15, address("up", -1, 5090), -1, none, api.ErrNone},
		{15, address("up", 1, 5130), -1, none, api.ErrSpan},
		{15, address("up", 2, 5171), -1, none, api.ErrRange},
		{15, address("up", 2, 5171), 100001, none, api.ErrRange},
		{15, address("up", 2, 5171), 9, none, api.ErrNone},
	} {
		a, e := network.Since(surveyed(), x.day, x.a, x.other)
		want(t, "Since", list(i, a, e), list(i, x.to, x.e))
	}
}

// TestSinceAcrossSurveys checks addresses that are carried by several maps, one after the other.
func TestSinceAcrossSurveys(t *testing.T) {
	h := append(surveyed(),
		network.Survey{Day: 30, Network: network.Network{Lines: []network.Line{line("main", piece(-300, 700))}}, Map: []network.Move{move("main", 0, -300, "main", 0)}},
		network.Survey{Day: 40, Network: shown(), Map: []network.Move{move("main", 60, 10, "side", 30)}},
	)
	for i, x := range []struct {
		day   int
		a     network.Address
		other int
		to    network.Address
		e     api.Errno
	}{
		{10, address("up", 1, 5090), 30, address("main", 0, 640), api.OK}, // up 110, main 239, main 60
		{10, address("up", 1, 5090), 40, address("side", 0, 30), api.OK},
		{40, address("side", 0, 30), 10, address("up", 1, 5090), api.OK},
		{40, address("side", 0, 30), 29, address("main", 0, 1239), api.OK},
		{30, address("main", 0, 640), 40, address("side", 0, 30), api.OK},
		{10, address("up", 1, 5089), 30, address("main", 0, 641), api.OK},
		{10, address("up", 1, 5091), 30, address("main", 0, 639), api.OK},
		{10, address("up", 1, 5089), 40, network.Address{}, api.ErrNone},
		{40, address("side", 0, 29), 30, network.Address{}, api.ErrNone},
		{40, address("side", 0, 39), 10, address("up", 1, 5099), api.OK},
	} {
		a, e := network.Since(h, x.day, x.a, x.other)
		want(t, "Since", list(i, a, e), list(i, x.to, x.e))
	}
}

// TestSinceOfAll compares addresses of histories of small networks with what is written out, metre by metre.
func TestSinceOfAll(t *testing.T) {
	g := source(8)
	for range 30 {
		h := someHistory(g)
		for from, s := range h {
			for to := range h {
				carried := map[network.Place]network.Place{}
				for _, p := range places(s.Network) {
					carried[p] = p
				}
				for i := from + 1; i <= to; i++ {
					carried = both(carried, carriage(h[i].Map))
				}
				for i := from; i > to; i-- {
					carried = both(carried, back(carriage(h[i].Map)))
				}
				for _, l := range s.Network.Lines {
					for metre, a := range addresses(l) {
						wanted, e := network.Address{}, api.ErrNone
						if p, is := carried[place(l.Name, metre)]; is {
							k := slices.IndexFunc(h[to].Network.Lines, func(l network.Line) bool { return l.Name == p.Line })
							wanted, e = addresses(h[to].Network.Lines[k])[p.Metre], api.OK
						}
						got, gotError := network.Since(h, s.Day, a, h[to].Day)
						want(t, "Since", list(h, from, to, a, got, gotError), list(h, from, to, a, wanted, e))
					}
				}
			}
		}
	}
}

// TestDatesOfBadHistories checks that the error of the history is the first one.
func TestDatesOfBadHistories(t *testing.T) {
	for i, x := range badHistories() {
		k, e := network.On(x.x, -1)
		want(t, "On", list(i, k, e), list(i, 0, x.e))
		a, e := network.Since(x.x, -1, address("none", -1, -1), -1)
		want(t, "Since", list(i, a, e), list(i, network.Address{}, x.e))
	}
}
