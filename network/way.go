package network

import (
	"cmp"
	"slices"

	"versine/api"
	"versine/base"
)

// ends is the two places that a switch joins, in the direction in which it is
// crossed.
type ends [2]Place

// endsOf returns both ends of a switch, that of Line first.
func (d directory) endsOf(s Switch) ends {
	other := Place{Line: s.Other}
	if s.Last {
		other.Metre = d[s.Other].length - 1
	}
	return ends{{s.Line, s.Metre}, other}
}

// crossingsOf returns the ends of all switches, each in both directions.
func (d directory) crossingsOf(switches []Switch) []ends {
	var l []ends
	for _, s := range switches {
		x := d.endsOf(s)
		l = append(l, x, ends{x[1], x[0]})
	}
	return l
}

// stride is a leg with its length.
type stride struct {
	Leg
	length int
}

func strideOf(l Leg) stride { return stride{l, max(l.From-l.To, l.To-l.From)} }

// begin and end are the places between which a leg leads.
func (l Leg) begin() Place { return Place{l.Line, l.From} }

func (l Leg) end() Place { return Place{l.Line, l.To} }

// route is the legs of a way so far, and the place from which it goes on.
type route struct {
	strides []stride
	length  int
	at      Place
}

// along returns the route that goes on along its line to a metre, and from there
// to a place.
func (r route) along(metre int, at Place) route {
	s := strideOf(Leg{r.at.Line, r.at.Metre, metre})
	return route{append(slices.Clone(r.strides), s), r.length + s.length, at}
}

// compare compares routes in the order in which the least one is the first.
func (d directory) compare(a, b route) int {
	return cmp.Or(
		cmp.Compare(a.length, b.length),
		cmp.Compare(len(a.strides), len(b.strides)),
		slices.CompareFunc(a.strides, b.strides, d.compareStrides),
	)
}

func (d directory) compareStrides(a, b stride) int {
	return cmp.Or(
		cmp.Compare(d[a.Line].index, d[b.Line].index),
		cmp.Compare(a.From, b.From),
		cmp.Compare(a.To, b.To),
	)
}

// routesFrom returns the least route from a place to each place at which a leg of
// a way may begin (the place itself, and those behind switches), by their lengths.
// Of two routes to one place the lesser one stays the lesser one as both go on, so
// the least of all routes that go on to new places is the least one to its place.
func (d directory) routesFrom(a Place, switches []Switch) []route {
	crossings := d.crossingsOf(switches)
	routes := []route{{at: a}}
	for {
		next := onward(routes, crossings)
		if len(next) == 0 {
			return routes
		}
		routes = append(routes, slices.MinFunc(next, d.compare))
	}
}

// onward returns the routes that go on across a switch to a place at which none of
// the routes is.
func onward(routes []route, crossings []ends) []route {
	var next []route
	for _, x := range crossings {
		if slices.ContainsFunc(routes, func(r route) bool { return r.at == x[1] }) {
			continue
		}
		for _, r := range routes {
			if r.at.Line == x[0].Line {
				next = append(next, r.along(x[0].Metre, x[1]))
			}
		}
	}
	return next
}

// Way returns the least way between two places, and its length.
func Way(n Network, a, b Place) ([]Leg, int, api.Errno) {
	d := directoryOf(n)
	if e := base.FirstError(CheckNetwork(n), d.checkPlace(a), d.checkPlace(b)); e != api.OK {
		return nil, 0, e
	}
	least, isFound := d.leastWay(d.routesFrom(a, n.Switches), b)
	if !isFound {
		return nil, 0, api.ErrInfeasible
	}
	return base.Mapped(least.strides, func(s stride) Leg { return s.Leg }), least.length, api.OK
}

// leastWay returns the least way to a place by routes that are sorted by their
// lengths, and whether there is one.
func (d directory) leastWay(routes []route, b Place) (route, bool) {
	var least route
	isFound := false
search:
	for _, r := range routes {
		switch {
		case isFound && r.length > least.length: // and no other one is shorter
			break search
		case r.at.Line == b.Line:
			if way := r.along(b.Metre, b); !isFound || d.compare(way, least) < 0 {
				least, isFound = way, true
			}
		}
	}
	return least, isFound
}

// CheckWay returns the length of a way between two places.
func CheckWay(n Network, a, b Place, way []Leg) (int, api.Errno) {
	d := directoryOf(n)
	e := base.FirstError(
		CheckNetwork(n), d.checkPlace(a), d.checkPlace(b),
		base.ErrorIf(len(way) == 0, api.ErrEmpty),
		base.ErrorIf(len(way) > MaxLegs, api.ErrMany),
		base.CheckEach(way, d.checkLeg),
	)
	if e != api.OK {
		return 0, e
	}
	if !isWay(d.crossingsOf(n.Switches), a, b, way) {
		return 0, api.ErrProof
	}
	length := 0
	for _, l := range way {
		length += strideOf(l).length
	}
	return length, api.OK
}

func (d directory) checkLeg(l Leg) api.Errno {
	return base.FirstError(d.checkPlace(l.begin()), d.checkPlace(l.end()))
}

// isWay reports whether legs, of which there is at least one, lead from one place
// to another one.
func isWay(crossings []ends, a, b Place, way []Leg) bool {
	if way[0].begin() != a || way[len(way)-1].end() != b {
		return false
	}
	for i, l := range way[1:] {
		if !slices.Contains(crossings, ends{way[i].end(), l.begin()}) {
			return false
		}
	}
	return true
}

// Reached returns the stretches within a distance of a place.
func Reached(n Network, a Place, most int) ([]Stretch, api.Errno) {
	d := directoryOf(n)
	e := base.FirstError(CheckNetwork(n), d.checkPlace(a), base.CheckBetween(most, 0, api.MaxPlace))
	if e != api.OK {
		return nil, e
	}
	routes := d.routesFrom(a, n.Switches)
	var l []Stretch
	for _, line := range n.Lines {
		for _, s := range longest(d[line.Name].within(routes, most)) {
			l = append(l, Stretch{line.Name, s})
		}
	}
	return l, api.OK
}

// within returns for each route that goes on along a line the metres which it
// reaches within a distance.
func (l entry) within(routes []route, most int) []api.Span {
	var spans []api.Span
	for _, r := range routes {
		if left := most - r.length; r.at.Line == l.Name && left >= 0 {
			spans = append(spans, api.Span{From: max(0, r.at.Metre-left), To: min(l.length, r.at.Metre+left+1)})
		}
	}
	return spans
}

// longest returns the longest spans of the metres of spans, ascending.
func longest(spans []api.Span) []api.Span {
	slices.SortFunc(spans, func(a, b api.Span) int { return cmp.Compare(a.From, b.From) })
	var out []api.Span
	for _, s := range spans {
		if k := len(out) - 1; k >= 0 && s.From <= out[k].To {
			out[k].To = max(out[k].To, s.To)
			continue
		}
		out = append(out, s)
	}
	return out
}

// Nearest returns the nearest structure of a kind, and its distance.
func Nearest(n Network, a Place, kind string) (string, int, api.Errno) {
	d := directoryOf(n)
	e := base.FirstError(
		CheckNetwork(n), d.checkPlace(a), checkName(kind),
		base.ErrorIf(!slices.ContainsFunc(n.Structures, func(s Structure) bool { return s.Kind == kind }), api.ErrUnknown),
	)
	if e != api.OK {
		return "", 0, e
	}
	name, least, isFound := "", 0, false
	routes := d.routesFrom(a, n.Switches)
	for _, s := range n.Structures {
		distance, isReached := s.distance(routes)
		if s.Kind == kind && isReached && (!isFound || distance < least) {
			name, least, isFound = s.Name, distance, true
		}
	}
	return name, least, base.ErrorIf(!isFound, api.ErrInfeasible)
}

// distance returns the distance of a structure by routes, and whether one of them
// goes on along its line.
func (s Structure) distance(routes []route) (int, bool) {
	least, isReached := 0, false
	for _, r := range routes {
		if r.at.Line != s.Line {
			continue
		}
		length := r.length + max(0, s.Span.From-r.at.Metre, r.at.Metre-(s.Span.To-1))
		if !isReached || length < least {
			least, isReached = length, true
		}
	}
	return least, isReached
}
