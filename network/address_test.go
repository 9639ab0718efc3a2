package network_test

import (
	"math"
	"slices"
	"strings"
	"testing"

	"versine/api"
	"versine/network"
)

// addresses writes the addresses of a line out, metre by metre.
func addresses(l network.Line) []network.Address {
	var out []network.Address
	for i, p := range l.Pieces {
		post := p.Post
		for range p.Length {
			out = append(out, address(l.Name, i, post))
			if post++; p.Back {
				post -= 2
			}
		}
	}
	return out
}

func TestCheckNetwork(t *testing.T) {
	for i, x := range badNetworks() {
		want(t, "CheckNetwork", list(i, network.CheckNetwork(x.x)), list(i, x.e))
	}
	want(t, "CheckNetwork", list(network.CheckNetwork(shown()), network.CheckNetwork(later())), list(api.OK, api.OK))
	want(t, "CheckNetwork of nothing", list(network.CheckNetwork(network.Network{})), list(api.OK))
	g := source(1)
	for range 300 {
		n := someNetwork(g)
		want(t, "CheckNetwork", list(n, network.CheckNetwork(n)), list(n, api.OK))
	}
}

func TestCheckPieces(t *testing.T) {
	for i, x := range []struct {
		p network.Piece
		e api.Errno
	}{
		{piece(1, 0), api.OK}, {piece(-1, 0), api.OK}, {piece(1, 9999999), api.OK}, {piece(-1, 9999999), api.OK},
		{piece(100000, 9900000), api.OK}, {piece(100000, 9900001), api.ErrLarge}, {piece(2, 9999999), api.ErrLarge},
		{piece(-100000, 99999), api.OK}, {piece(-100000, 99998), api.ErrLarge}, {piece(-2, 0), api.ErrLarge},
		{piece(100001, 0), api.ErrRange}, {piece(0, 0), api.ErrRange}, {piece(1, 10000000), api.ErrRange}, {piece(1, -1), api.ErrRange},
		{network.Piece{Length: math.MaxInt, Post: math.MaxInt}, api.ErrRange}, {network.Piece{Length: math.MinInt, Back: true}, api.ErrRange},
		{network.Piece{Length: 1, Post: math.MinInt, Back: true}, api.ErrRange},
	} {
		n := network.Network{Lines: []network.Line{line("a", piece(1, 5), x.p)}}
		want(t, "CheckNetwork of a piece", list(i, network.CheckNetwork(n)), list(i, x.e))
	}
	// The first piece decides, not the first kind of error.
	n := network.Network{Lines: []network.Line{line("a", piece(-2, 0), piece(0, 0))}}
	want(t, "CheckNetwork of two pieces", list(network.CheckNetwork(n)), list(api.ErrLarge))
}

// full returns a network with as much of everything as there may be, and with the longest names and numbers.
func full() network.Network {
	name := func(first string, i int) string { return first + strings.Repeat("x", 22) + string(rune('a'+i)) }
	var n network.Network
	for i := range 8 {
		l := line(name("l", i))
		for range 8 {
			l.Pieces = append(l.Pieces, piece(100000, 9900000))
		}
		n.Lines = append(n.Lines, l)
	}
	for i := range 8 {
		n.Switches = append(n.Switches, network.Switch{Name: name("l", i), Line: name("l", i), Metre: 799999, Other: name("l", (i+1)%8)})
	}
	for i := range 16 {
		n.Structures = append(n.Structures, network.Structure{Name: name("l", i), Kind: name("k", i%2), Line: name("l", i%8), Span: span(799999, 800000)})
	}
	return n
}

func TestCheckLimits(t *testing.T) {
	want(t, "CheckNetwork of a full network", list(network.CheckNetwork(full())), list(api.OK))
	for i, x := range []struct {
		spoil func(n *network.Network)
		e     api.Errno
	}{
		{func(n *network.Network) { n.Lines = append(n.Lines, line("one", piece(1, 0))) }, api.ErrMany},
		{func(n *network.Network) { n.Lines[7].Pieces = append(n.Lines[7].Pieces, piece(1, 0)) }, api.ErrMany},
		{func(n *network.Network) { n.Lines[7].Name += "x" }, api.ErrName},
		{func(n *network.Network) { n.Lines[7].Name = n.Lines[0].Name }, api.ErrTwice},
		{func(n *network.Network) {
			n.Switches = append(n.Switches, network.Switch{Name: "one", Line: n.Lines[0].Name, Other: n.Lines[1].Name})
		}, api.ErrMany},
		{func(n *network.Network) { n.Switches[7].Name = n.Switches[0].Name }, api.ErrTwice},
		{func(n *network.Network) { n.Switches[7].Metre = 800000 }, api.ErrSpan},
		{func(n *network.Network) { n.Switches[7].Metre = -1 }, api.ErrSpan},
		{func(n *network.Network) { n.Switches[7].Metre = 0 }, api.OK},
		{func(n *network.Network) { n.Switches[7] = n.Switches[6]; n.Switches[7].Name = "one" }, api.OK},
		{func(n *network.Network) { n.Structures = append(n.Structures, n.Structures[15]) }, api.ErrMany},
		{func(n *network.Network) { n.Structures[15].Name = n.Structures[0].Name }, api.ErrTwice},
		{func(n *network.Network) { n.Structures[15].Span = span(0, 800000) }, api.OK},
		{func(n *network.Network) { n.Structures[15].Span = span(-1, 800000) }, api.ErrSpan},
		{func(n *network.Network) { n.Structures[15].Span = span(0, 800001) }, api.ErrSpan},
		{func(n *network.Network) { n.Structures[15].Span = span(7, 7) }, api.ErrSpan},
		{func(n *network.Network) { n.Structures[15].Span = span(8, 7) }, api.ErrSpan},
		{func(n *network.Network) { n.Structures[15].Span = span(math.MaxInt, math.MinInt) }, api.ErrSpan},
		{func(n *network.Network) { n.Structures[15].Kind = "two words" }, api.ErrKind},
	} {
		n := full()
		x.spoil(&n)
		want(t, "CheckNetwork", list(i, network.CheckNetwork(n)), list(i, x.e))
	}
}

func TestLength(t *testing.T) {
	for name, n := range map[string]int{"up": 180, "side": 40} {
		got, e := network.Length(shown(), name)
		want(t, "Length", list(name, got, e), list(name, n, api.OK))
	}
	n, e := network.Length(full(), full().Lines[3].Name)
	want(t, "Length of a long line", list(n, e), list(800000, api.OK))
	for _, name := range []string{"", "Up", "up ", "w", "arch"} {
		n, e := network.Length(shown(), name)
		want(t, "Length of no line", list(name, n, e), list(name, 0, api.ErrUnknown))
	}
}

func TestAddressed(t *testing.T) {
	for metre, a := range map[int]network.Address{
		0: address("up", 0, 5000), 99: address("up", 0, 5099), 100: address("up", 1, 5080), 120: address("up", 1, 5100),
		149: address("up", 1, 5129), 150: address("up", 2, 5200), 179: address("up", 2, 5171),
	} {
		got, e := network.Addressed(shown(), place("up", metre))
		want(t, "Addressed", list(metre, got, e), list(metre, a, api.OK))
	}
	for i, x := range []struct {
		p network.Place
		e api.Errno
	}{
		{place("up", 180), api.ErrSpan}, {place("up", -1), api.ErrSpan}, {place("side", 40), api.ErrSpan},
		{place("up", math.MaxInt), api.ErrSpan}, {place("up", math.MinInt), api.ErrSpan},
		{place("none", 0), api.ErrUnknown}, {place("", -1), api.ErrUnknown},
	} {
		a, e := network.Addressed(shown(), x.p)
		want(t, "Addressed of no place", list(i, a, e), list(i, network.Address{}, x.e))
	}
	last := full().Lines[7].Name
	a, e := network.Addressed(full(), place(last, 799999))
	want(t, "Addressed of a last metre", list(a, e), list(address(last, 7, 9999999), api.OK))
}

func TestPlaced(t *testing.T) {
	for i, x := range []struct {
		a network.Address
		p network.Place
		e api.Errno
	}{
		{address("up", 0, 5000), place("up", 0), api.OK}, {address("up", 0, 5099), place("up", 99), api.OK},
		{address("up", 1, 5080), place("up", 100), api.OK}, {address("up", 1, 5129), place("up", 149), api.OK},
		{address("up", 2, 5200), place("up", 150), api.OK}, {address("up", 2, 5171), place("up", 179), api.OK},
		{address("side", 0, 39), place("side", 39), api.OK},
		{address("up", 0, 4999), network.Place{}, api.ErrSpan}, {address("up", 0, 5100), network.Place{}, api.ErrSpan},
		{address("up", 1, 5079), network.Place{}, api.ErrSpan}, {address("up", 1, 5130), network.Place{}, api.ErrSpan},
		{address("up", 2, 5201), network.Place{}, api.ErrSpan}, {address("up", 2, 5170), network.Place{}, api.ErrSpan},
		{address("side", 0, -1), network.Place{}, api.ErrSpan}, {address("up", 2, math.MinInt), network.Place{}, api.ErrSpan},
		{address("up", 2, math.MaxInt), network.Place{}, api.ErrSpan}, {address("up", 0, math.MinInt), network.Place{}, api.ErrSpan},
		{address("side", 0, math.MinInt), network.Place{}, api.ErrSpan},
		{address("up", 3, 5000), network.Place{}, api.ErrNone}, {address("up", -1, 5000), network.Place{}, api.ErrNone},
		{address("side", 1, -1), network.Place{}, api.ErrNone}, {address("up", math.MinInt, 0), network.Place{}, api.ErrNone},
		{address("none", 3, 5000), network.Place{}, api.ErrUnknown},
	} {
		p, e := network.Placed(shown(), x.a)
		want(t, "Placed", list(i, p, e), list(i, x.p, x.e))
	}
}

func TestPosts(t *testing.T) {
	for post, l := range map[int][]network.Address{
		5090: {address("up", 0, 5090), address("up", 1, 5090)},
		4999: nil, 5000: {address("up", 0, 5000)}, 5079: {address("up", 0, 5079)},
		5080: {address("up", 0, 5080), address("up", 1, 5080)}, 5099: {address("up", 0, 5099), address("up", 1, 5099)},
		5100: {address("up", 1, 5100)}, 5129: {address("up", 1, 5129)}, 5130: nil, 5150: nil, 5170: nil,
		5171: {address("up", 2, 5171)}, 5200: {address("up", 2, 5200)}, 5201: nil, 0: nil, 9999999: nil,
	} {
		got, e := network.Posts(shown(), "up", post)
		want(t, "Posts", list(post, got, e), list(post, l, api.OK))
	}
	for i, x := range []struct {
		line string
		post int
		e    api.Errno
	}{
		{"up", -1, api.ErrRange}, {"up", 10000000, api.ErrRange}, {"side", math.MinInt, api.ErrRange}, {"side", math.MaxInt, api.ErrRange},
		{"none", -1, api.ErrUnknown}, {"none", 0, api.ErrUnknown},
	} {
		l, e := network.Posts(shown(), x.line, x.post)
		want(t, "Posts of no post", list(i, l, e), list(i, []network.Address{}, x.e))
	}
}

// TestPostsThatTouch checks pieces whose posts end where, or before, those of others begin.
func TestPostsThatTouch(t *testing.T) {
	n := network.Network{Lines: []network.Line{line("a", piece(10, 0), piece(10, 10), piece(-11, 20), piece(-10, 9))}}
	for post, l := range map[int][]network.Address{
		0:  {address("a", 0, 0), address("a", 3, 0)},
		9:  {address("a", 0, 9), address("a", 3, 9)},
		10: {address("a", 1, 10), address("a", 2, 10)},
		19: {address("a", 1, 19), address("a", 2, 19)},
		20: {address("a", 2, 20)},
	} {
		got, e := network.Posts(n, "a", post)
		want(t, "Posts", list(post, got, e), list(post, l, api.OK))
	}
	for metre, a := range map[int]network.Address{
		9: address("a", 0, 9), 10: address("a", 1, 10), 19: address("a", 1, 19), 20: address("a", 2, 20),
		30: address("a", 2, 10), 31: address("a", 3, 9), 40: address("a", 3, 0),
	} {
		got, e := network.Addressed(n, place("a", metre))
		want(t, "Addressed", list(metre, got, e), list(metre, a, api.OK))
		p, e := network.Placed(n, a)
		want(t, "Placed", list(a, p, e), list(a, place("a", metre), api.OK))
	}
}

// TestAddressesOfAllPlaces compares the addresses of small networks with those that are written out, metre by metre.
func TestAddressesOfAllPlaces(t *testing.T) {
	g := source(2)
	for range 300 {
		n := someNetwork(g)
		for _, l := range n.Lines {
			all := addresses(l)
			size, e := network.Length(n, l.Name)
			want(t, "Length", list(l, size, e), list(l, len(all), api.OK))
			for metre, a := range all {
				got, e := network.Addressed(n, place(l.Name, metre))
				want(t, "Addressed", list(l, metre, got, e), list(l, metre, a, api.OK))
			}
			for post := range 30 {
				var wanted []network.Address
				for i := range l.Pieces {
					a := address(l.Name, i, post)
					metre := slices.Index(all, a)
					p, e := network.Placed(n, a)
					if metre < 0 {
						want(t, "Placed of no metre", list(l, a, p, e), list(l, a, network.Place{}, api.ErrSpan))
						continue
					}
					want(t, "Placed", list(l, a, p, e), list(l, a, place(l.Name, metre), api.OK))
					wanted = append(wanted, a)
				}
				got, e := network.Posts(n, l.Name, post)
				want(t, "Posts", list(l, post, got, e), list(l, post, wanted, api.OK))
			}
		}
	}
}

func TestBranches(t *testing.T) {
	for _, name := range []string{"up", "side"} {
		l, e := network.Branches(shown(), name)
		want(t, "Branches", list(name, l, e), list(name, []string{"w"}, api.OK))
	}
	n := shown()
	n.Lines = append(n.Lines, line("yard", piece(10, 0)))
	n.Switches = []network.Switch{
		{Name: "e", Line: "up", Metre: 179, Other: "side"},
		{Name: "d", Line: "side", Metre: 39, Other: "yard", Last: true},
		{Name: "c", Line: "up", Metre: 0, Other: "side", Last: true},
		{Name: "b", Line: "side", Metre: 20, Other: "up", Last: true},
		{Name: "a", Line: "side", Metre: 0, Other: "up"},
	}
	for name, l := range map[string][]string{
		"up":   {"c", "a", "e", "b"},
		"side": {"e", "a", "b", "d", "c"},
		"yard": {"d"},
	} {
		got, e := network.Branches(n, name)
		want(t, "Branches", list(name, got, e), list(name, l, api.OK))
	}
	n.Switches = nil
	l, e := network.Branches(n, "up")
	want(t, "Branches of a line without any", list(l, e), list([]string{}, api.OK))
	l, e = network.Branches(n, "none")
	want(t, "Branches of no line", list(l, e), list([]string{}, api.ErrUnknown))
}

// TestAddressesOfBadNetworks checks that the error of the network is the first one.
func TestAddressesOfBadNetworks(t *testing.T) {
	for i, x := range badNetworks() {
		n, e := network.Length(x.x, "none")
		want(t, "Length", list(i, n, e), list(i, 0, x.e))
		a, e := network.Addressed(x.x, place("none", -1))
		want(t, "Addressed", list(i, a, e), list(i, network.Address{}, x.e))
		p, e := network.Placed(x.x, address("none", -1, -1))
		want(t, "Placed", list(i, p, e), list(i, network.Place{}, x.e))
		l, e := network.Posts(x.x, "none", -1)
		want(t, "Posts", list(i, l, e), list(i, []network.Address{}, x.e))
		b, e := network.Branches(x.x, "none")
		want(t, "Branches", list(i, b, e), list(i, []string{}, x.e))
	}
}
