package inertia_test

import (
	"math"
	"math/rand/v2"
	"reflect"
	"slices"
	"testing"

	"versine/api"
	"versine/inertia"
)

// guarded returns a list with room behind it, and whether nobody wrote into it or its room.
func guarded[T comparable](l []T, guard T) ([]T, func() bool) {
	room := append(slices.Clone(l), guard, guard, guard)
	before := slices.Clone(room)
	return room[:len(l)], func() bool { return slices.Equal(room, before) }
}

// lists is the lists that a function gets.
type lists struct {
	a, b   []float32
	speeds []int
	ticks  []inertia.Tick
}

// spoil writes over all elements of lists.
func (l lists) spoil() {
	clear(l.a)
	clear(l.b)
	clear(l.speeds)
	clear(l.ticks)
}

// signalMakers are all functions that return signals.
func signalMakers() map[string]func(l lists) ([]float32, api.Errno) {
	return map[string]func(l lists) ([]float32, api.Errno){
		"Corrected":          func(l lists) ([]float32, api.Errno) { return inertia.Corrected(left(), l.a) },
		"Corrected by plain": func(l lists) ([]float32, api.Errno) { return inertia.Corrected(plain(0), l.a) },
		"Turned":             func(l lists) ([]float32, api.Errno) { return inertia.Turned(l.a) },
		"Voted": func(l lists) ([]float32, api.Errno) {
			votes, _, e := inertia.Voted(l.ticks, 0)
			return votes, e
		},
		"Stepped":         func(l lists) ([]float32, api.Errno) { return inertia.Stepped(l.ticks, 0, span(2, 5)) },
		"Bent":            func(l lists) ([]float32, api.Errno) { return inertia.Bent(l.a) },
		"Doubled":         func(l lists) ([]float32, api.Errno) { return inertia.Doubled(l.a, [2]float32{5, 7}) },
		"Undoubled":       func(l lists) ([]float32, api.Errno) { return inertia.Undoubled(l.a, [2]float32{5, 7}) },
		"Halved":          func(l lists) ([]float32, api.Errno) { return inertia.Halved(l.a, l.b) },
		"Halved with one": func(l lists) ([]float32, api.Errno) { return inertia.Halved(l.a, l.a) },
		"Leveled":         func(l lists) ([]float32, api.Errno) { return inertia.Leveled(l.a) },
		"Leveled of a level signal": func(l lists) ([]float32, api.Errno) {
			return inertia.Leveled(l.b)
		},
		"Straightened": func(l lists) ([]float32, api.Errno) { return inertia.Straightened(l.a) },
		"Straightened of a straight signal": func(l lists) ([]float32, api.Errno) {
			return inertia.Straightened(l.b)
		},
		"Felt":   func(l lists) ([]float32, api.Errno) { return inertia.Felt(l.a, l.speeds[:2]) },
		"Freed":  func(l lists) ([]float32, api.Errno) { return inertia.Freed(l.a, l.speeds) },
		"Rolled": func(l lists) ([]float32, api.Errno) { return inertia.Rolled(l.a, l.speeds, 3) },
		"Cant":   func(l lists) ([]float32, api.Errno) { return inertia.Cant(l.a, l.b) },
		"Twist":  func(l lists) ([]float32, api.Errno) { return inertia.Twist(l.a, 1) },
	}
}

// TestSignalsShareNoMemory checks of all functions that return signals that the arguments stay, and that results are new memory.
func TestSignalsShareNoMemory(t *testing.T) {
	for name, f := range signalMakers() {
		var l lists
		var areSame [4]func() bool
		l.a, areSame[0] = guarded([]float32{1, -2, 3, 5}, 9)
		l.b, areSame[1] = guarded([]float32{0, 0, 0, 0}, 9)
		l.speeds, areSame[2] = guarded([]int{1, 2, 3, 1}, 9)
		l.ticks, areSame[3] = guarded([]inertia.Tick{sure(2, 16), torn(3), sure(4, 80)}, sure(9, 9))
		x, e := f(l)
		first := slices.Clone(x)
		again, _ := f(l)
		for i := range x {
			x[i] = 99
		}
		_ = append(x[:0], 99) // also what room it has
		want(t, name, list(e, again), list(api.OK, first))
		for i, isSame := range areSame {
			want(t, name+" and its arguments", list(i, isSame()), list(i, true))
		}
		l.spoil()
		want(t, name+" of spoiled arguments", list(again), list(first))
	}
}

// TestListsShareNoMemory checks the same of the functions of other lists.
func TestListsShareNoMemory(t *testing.T) {
	ticks, areTicksSame := guarded([]inertia.Tick{torn(1), sure(1, 5), torn(2)}, sure(9, 9))
	_, spans, _ := inertia.Voted(ticks, 0)
	clear(spans)
	_, spans, e := inertia.Voted(ticks, 0)
	want(t, "Voted again", list(spans, e, areTicksSame()), list([]api.Span{span(0, 1), span(2, 3)}, api.OK, true))

	a, isSame := guarded([]float32{1, 2, 3, 4}, 9)
	b, isOtherSame := guarded([]float32{5, 6, 7, 8}, 9)
	g, _ := inertia.Gauge(a, b, 3)
	clear(g)
	g, e = inertia.Gauge(a, b, 3)
	p, _ := inertia.Panels(a)
	clear(p)
	p, f := inertia.Panels(a)
	_, e1 := inertia.Offset(a, b)
	_, e2 := inertia.Fitted(a)
	want(t, "Gauge, Panels, Offset and Fitted", list(e, f, e1, e2, isSame(), isOtherSame()), list(api.OK, api.OK, api.OK, api.OK, true, true))
	clear(a)
	clear(b)
	want(t, "results of spoiled arguments", list(g, p), list([]int{99, 131, 163, 195}, [][4]complex64{{10, -2 + 2i, -2, -2 - 2i}}))

	speeds, areSpeedsSame := guarded([]int{1, 2}, 9)
	channels, areChannelsSame := guarded([]inertia.Channel{left(), plain(3)}, plain(9))
	s, e3 := inertia.Print(channels)
	want(t, "the checks", list(inertia.CheckSpeeds(speeds), inertia.CheckTicks(ticks), inertia.CheckSignal(a), e3), list(api.OK, api.OK, api.OK, api.OK))
	want(t, "their arguments", list(areSpeedsSame(), areTicksSame(), areChannelsSame()), list(true, true, true))
	parsed, _, _ := inertia.Parse(s)
	clear(parsed)
	parsed, line, e := inertia.Parse(s)
	want(t, "Parse again", list(parsed, line, e), list(channels, 0, api.OK))
}

// anyInt, anySample, anySignal, anySpeeds, anyTicks, anyChannel and anyText return arguments of any form.
func anyInt(g *rand.Rand) int {
	l := []int{math.MinInt, math.MinInt + 1, -1 << 31, -16385, -1, 0, 0, 1, 1, 2, 3, 5, 12, 64, 65, 100, 101, 1000, 1001, 4096, 4097, 16384, 16385, api.MaxPlace - 4, api.MaxPlace, api.MaxPlace + 1, math.MaxInt - 1, math.MaxInt}
	return l[g.IntN(len(l))]
}

func anySample(g *rand.Rand) float32 {
	if g.IntN(3) > 0 {
		return signal(someIntegers(g, 1, 16384)...)[0]
	}
	l := []float32{0, minusZero, 1, -1, 1024, -1024, 1024.0625, 0.03125, nan, infinite, -infinite, math.MaxFloat32, math.SmallestNonzeroFloat32}
	return l[g.IntN(len(l))]
}

func anySignal(g *rand.Rand) []float32 {
	switch g.IntN(8) {
	case 0:
		l := badSignals()
		return l[g.IntN(len(l))].l
	case 1:
		return constant(anySample(g), g.IntN(5))
	case 2:
		return constant(anySample(g), between(g, 4090, 4097))
	case 3:
		return []float32{anySample(g), anySample(g), anySample(g), anySample(g)}
	}
	return signal(someIntegers(g, g.IntN(9), 1<<g.IntN(15))...)
}

func anySpeeds(g *rand.Rand, n int) []int {
	switch g.IntN(6) {
	case 0:
		l := badSpeedLists()
		return l[g.IntN(len(l))].l
	case 1:
		return constant(anyInt(g), g.IntN(5))
	case 2:
		return someSpeeds(g, n, 100)
	}
	return someSpeeds(g, max(0, n-2), 3)
}

func anyTicks(g *rand.Rand) []inertia.Tick {
	switch g.IntN(5) {
	case 0:
		l := badTickLists()
		return l[g.IntN(len(l))].l
	case 1:
		l := make([]inertia.Tick, g.IntN(4))
		for i := range l {
			l[i] = tick(anyInt(g), anySample(g), anySample(g), anySample(g))
		}
		return l
	}
	return someTicks(g, 8, 20)
}

func anyChannel(g *rand.Rand) inertia.Channel {
	if g.IntN(3) == 0 {
		l := badChannels()
		return l[g.IntN(len(l))].c
	}
	return inertia.Channel{Name: []string{"", "a", "b", "9"}[g.IntN(4)], Offset: anySample(g), Num: anyInt(g), Den: between(g, 1, 9)}
}

func anyChannels(g *rand.Rand) []inertia.Channel {
	if g.IntN(3) == 0 {
		return someChannels(g, 5)
	}
	l := make([]inertia.Channel, g.IntN(4))
	for i := range l {
		l[i] = anyChannel(g)
	}
	return l
}

func anyText(g *rand.Rand) string {
	words := []string{"channel", "a", "channel b 1 1 1\n", "0", "1", "-1", "-0", "01", "16385", "9999999999", "", " ", "\n", "\n", "\n", "\xff", "\x00", "é"}
	s := []string{"", shownLine, shownLine + "channel "}[g.IntN(3)]
	for range g.IntN(8) {
		s += words[g.IntN(len(words))]
		if g.IntN(2) > 0 {
			s += " "
		}
	}
	return s
}

// given is arguments of any form.
type given struct {
	a, b     []float32
	x        float32
	ends     [2]float32
	ticks    []inertia.Tick
	speeds   []int
	n        int
	places   api.Span
	channel  inertia.Channel
	channels []inertia.Channel
	text     string
}

func anyGiven(g *rand.Rand) given {
	x := given{a: anySignal(g), b: anySignal(g), x: anySample(g), ends: [2]float32{anySample(g), anySample(g)}, ticks: anyTicks(g), n: anyInt(g)}
	x.speeds, x.places = anySpeeds(g, len(x.a)), span(anyInt(g), anyInt(g))
	x.channel, x.channels, x.text = anyChannel(g), anyChannels(g), anyText(g)
	if g.IntN(2) == 0 {
		x.b = x.a
	}
	if g.IntN(2) == 0 {
		x.n, x.places = g.IntN(20), span(g.IntN(6), 6)
	}
	return x
}

// all returns all arguments as a list.
func (x given) all() []any {
	return list(x.a, x.b, x.x, x.ends, x.ticks, x.speeds, x.n, x.places, x.channel, x.channels, x.text)
}

// results returns the results of all functions for these arguments, each one followed by its error, and last the errors of four checks.
func (x given) results() []any {
	var results []any
	add := func(l ...any) { results = append(results, l...) }
	add(inertia.Corrected(x.channel, x.a))
	add(inertia.Turned(x.a))
	add(inertia.Offset(x.a, x.b))
	votes, spans, e := inertia.Voted(x.ticks, x.n)
	add(votes, e, spans, e)
	add(inertia.Stepped(x.ticks, x.n, x.places))
	add(inertia.Bent(x.a))
	add(inertia.Doubled(x.a, x.ends))
	add(inertia.Undoubled(x.a, x.ends))
	add(inertia.Halved(x.a, x.b))
	add(inertia.Fitted(x.a))
	add(inertia.Leveled(x.a))
	add(inertia.Straightened(x.a))
	add(inertia.Felt(x.a, x.speeds))
	add(inertia.Freed(x.a, x.speeds))
	add(inertia.Rolled(x.a, x.speeds, x.x))
	add(inertia.Cant(x.a, x.b))
	add(inertia.Twist(x.a, x.n))
	add(inertia.Gauge(x.a, x.b, x.n))
	add(inertia.Panels(x.a))
	add(inertia.Response(), api.OK)
	add(inertia.Print(x.channels))
	parsed, line, e := inertia.Parse(x.text)
	add(parsed, e)
	if e == api.OK {
		add(line, api.ErrNone) // an index of no line
	}
	add(inertia.CheckChannel(x.channel), inertia.CheckSignal(x.a), inertia.CheckTicks(x.ticks), inertia.CheckSpeeds(x.speeds))
	return results
}

// alike is same for arguments, in which NaN is like NaN.
func alike(a, b any) bool {
	x, y := reflect.ValueOf(a), reflect.ValueOf(b)
	switch x.Kind() {
	case reflect.Slice, reflect.Array:
		if x.Len() != y.Len() {
			return false
		}
		for i := range x.Len() {
			if !alike(x.Index(i).Interface(), y.Index(i).Interface()) {
				return false
			}
		}
		return true
	case reflect.Struct:
		for i := range x.NumField() {
			if !alike(x.Field(i).Interface(), y.Field(i).Interface()) {
				return false
			}
		}
		return true
	case reflect.Float32:
		return math.Float32bits(float32(x.Float())) == math.Float32bits(float32(y.Float()))
	}
	return x.Equal(y)
}

// TestAnyArguments checks that no function panics or does not terminate, that each returns the same results again, and that none changes its arguments.
func TestAnyArguments(t *testing.T) {
	for seed := range uint64(1500) {
		x := anyGiven(source(seed))
		want(t, "results again", list(seed, x.results()), list(seed, x.results()))
		if untouched := anyGiven(source(seed)); !alike(x.all(), untouched.all()) {
			t.Errorf("arguments %v: got %v, want %v", seed, x, untouched)
		}
	}
}

// TestZeroBesideErrors checks that beside an error every other result is its zero value.
func TestZeroBesideErrors(t *testing.T) {
	g := source(50)
	for range 2000 {
		results := anyGiven(g).results()
		for i := 0; i+4 < len(results); i += 2 {
			if x := reflect.ValueOf(results[i]); results[i+1] != api.OK && !same(x, reflect.Zero(x.Type())) {
				t.Errorf("the result %v beside the error %v: got %v", i, results[i+1], results[i])
			}
		}
	}
}

// TestResultsAreWellFormed checks that each signal that is returned without an error is one, and that enough are.
func TestResultsAreWellFormed(t *testing.T) {
	g := source(51)
	signals, texts := 0, 0
	for range 2000 {
		results := anyGiven(g).results()
		for i := 0; i+4 < len(results); i += 2 {
			if results[i+1] != api.OK {
				continue
			}
			switch x := results[i].(type) {
			case []float32:
				signals++
				want(t, "the error of a signal", list(i, inertia.CheckSignal(x)), list(i, api.OK))
			case []inertia.Channel:
				texts++
				for _, c := range x {
					want(t, "the error of a channel", list(i, c, inertia.CheckChannel(c)), list(i, c, api.OK))
				}
			}
		}
	}
	if signals < 5000 || texts < 100 {
		t.Error("too few signals or texts have no error: ", signals, texts)
	}
}
