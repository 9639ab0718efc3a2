package possession_test

import (
	"fmt"
	"math"
	"math/rand/v2"
	"reflect"
	"slices"
	"strings"
	"testing"

	"versine/api"
	"versine/possession"
)

// given is arguments of all functions.
type given struct {
	events     []api.Event
	event      api.Event
	tick       int
	track      string
	possession string
	log        string
}

// shownGiven returns arguments for which no function has an error.
func shownGiven() given {
	return given{shown(13), event(14, "return p 9"), 4, "up", "p", shownLog(13)}
}

// shownElse returns such arguments of which Next, too, has no error.
func shownElse() given {
	return given{shown(3), event(4, "take p up 3 90 200"), 1, "up", "p", shownLog(3)}
}

// call is a function with its arguments in the order of their errors.
type call struct {
	name      string
	arguments string
	f         func(x given) []any
}

// calls returns all functions. The letters of arguments are those of flawsOfArguments.
func calls() []call {
	l := func(l ...any) []any { return l }
	return []call{
		{"CheckEvent", "e", func(x given) []any { return l(possession.CheckEvent(x.event)) }},
		{"Replay", "l", func(x given) []any { return l(possession.Replay(x.events)) }},
		{"Accepts", "lea", func(x given) []any { return l(possession.Accepts(x.events, x.event)) }},
		{"AsOf", "lk", func(x given) []any { return l(possession.AsOf(x.events, x.tick)) }},
		{"Permitted", "lt", func(x given) []any { return l(possession.Permitted(x.events, x.track)) }},
		{"Next", "lt", func(x given) []any { return l(possession.Next(x.events, x.track)) }},
		{"Silent", "l", func(x given) []any { return l(possession.Silent(x.events)) }},
		{"Blocked", "lt", func(x given) []any { return l(possession.Blocked(x.events, x.track)) }},
		{"Barrier", "lp", func(x given) []any { return l(possession.Barrier(x.events, x.possession)) }},
		{"Ready", "lp", func(x given) []any { return l(possession.Ready(x.events, x.possession)) }},
		{"Inside", "lp", func(x given) []any { return l(possession.Inside(x.events, x.possession)) }},
		{"Story", "lt", func(x given) []any { return l(possession.Story(x.events, x.track)) }},
		{"Append", "ge", func(x given) []any { return l(possession.Append(x.log, x.event)) }},
		{"Recover", "g", func(x given) []any { return l(possession.Recover(x.log)) }},
	}
}

// setting makes an argument have an error.
type setting struct {
	e   api.Errno
	set func(x *given)
}

// flawsOfArguments returns how each argument has errors. Events have theirs at one of the first three, or are too many.
func flawsOfArguments() map[rune][]setting {
	of := map[rune][]setting{}
	add := func(argument rune, e api.Errno, set func(x *given)) {
		of[argument] = append(of[argument], setting{e, set})
	}
	add('l', api.ErrMany, func(x *given) { x.events = make([]api.Event, 1001) })
	add('l', api.ErrRange, func(x *given) { x.events[2].Number = 0 })
	add('l', api.ErrKind, func(x *given) { x.events[2].Kind = "note" })
	add('l', api.ErrShape, func(x *given) { x.events[1].Values = nil })
	add('l', api.ErrName, func(x *given) { x.events[0].Names = words("9") })
	add('l', api.ErrForm, func(x *given) { x.events[2].Text = "x" })
	add('l', api.ErrOrder, func(x *given) { x.events[1].Number = 1 })
	add('l', api.ErrUnknown, func(x *given) { x.events = x.events[1:]; x.events[0].Number = 1 })
	add('l', api.ErrEmpty, func(x *given) { x.events = journal("undo") })
	for _, f := range flawsOf("out") {
		add('e', f.e, func(x *given) {
			x.event = event(x.event.Number, "out x 9")
			f.spoil(&x.event)
		})
	}
	add('a', api.ErrOrder, func(x *given) { x.event.Number-- })
	add('a', api.ErrUnknown, func(x *given) { x.event = event(x.event.Number, "out x 9") })
	for _, n := range ints(math.MinInt, -1, 1000000000, math.MaxInt) {
		add('k', api.ErrRange, func(x *given) { x.tick = n })
	}
	for _, name := range words("", "f", "tamper", "UP", "up ", "P", "no name", strings.Repeat("u", 100)) {
		add('t', api.ErrUnknown, func(x *given) { x.track = name })
		add('p', api.ErrUnknown, func(x *given) { x.possession = name })
	}
	add('t', api.ErrUnknown, func(x *given) { x.track = "p" })
	add('p', api.ErrUnknown, func(x *given) { x.possession = "up" })
	add('g', api.ErrLong, func(x *given) { x.log = strings.Repeat(x.log, 1000000/len(x.log)+1) })
	return of
}

// TestErrorsOfArguments checks of each function that the first argument with an error decides, whatever those behind it are, and that beside it all results are zero values.
func TestErrorsOfArguments(t *testing.T) {
	flaws := flawsOfArguments()
	for _, c := range calls() {
		good := shownGiven
		if c.name == "Next" || c.name == "Accepts" {
			good = shownElse
		}
		results := c.f(good())
		want(t, c.name+" without an error", results[len(results)-1:], list(api.OK))
		for at, argument := range c.arguments {
			for i, f := range flaws[argument] {
				x := good()
				f.set(&x)
				results := c.f(x)
				what := fmt.Sprintf("%v with the flaw %v of %c", c.name, i, argument)
				checkFlaw(t, what, c, results, f.e)
				for _, later := range c.arguments[at+1:] {
					for k, other := range flaws[later] {
						x := good()
						other.set(&x)
						f.set(&x)
						if argument == 'e' && later == 'a' && f.e == api.ErrRange { // both set the number
							continue
						}
						checkFlaw(t, fmt.Sprintf("%v, and %v of %c", what, k, later), c, c.f(x), f.e)
					}
				}
			}
		}
	}
}

// checkFlaw checks the results of a call with an error. Replay tells the number of the event, too, if there are not too many.
func checkFlaw(t *testing.T, what string, c call, results []any, e api.Errno) {
	t.Helper()
	if c.name == "Replay" && e != api.ErrMany {
		if n := results[1].(int); n < 1 || n > 3 {
			t.Errorf("%v: got the number %v", what, n)
		}
		results[1] = 0
	}
	checkError(t, what, results, e)
}

// TestErrorsBehindArguments checks the errors that are named behind those of the arguments.
func TestErrorsBehindArguments(t *testing.T) {
	all := map[string]call{}
	for _, c := range calls() {
		all[c.name] = c
	}
	for i, x := range []struct {
		name   string
		events []api.Event
		e      api.Errno
	}{
		{"Next", shown(4), api.ErrHeld}, {"Next", shown(2), api.ErrOpen}, {"Next", journal("track up 0 9", "fault f up 0 1 2 0", "answer f 0"), api.ErrNone}, {"Next", nil, api.ErrUnknown}, {"Next", shown(13), api.ErrHeld}, {"Next", shown(14), api.OK},
		{"Barrier", shown(14), api.ErrOver}, {"Ready", shown(14), api.ErrOver}, {"Inside", shown(14), api.OK}, {"Barrier", shown(15), api.ErrOver}, {"Ready", shown(15), api.ErrOver},
		{"Barrier", shown(3), api.ErrUnknown}, {"Ready", shown(3), api.ErrUnknown}, {"Inside", shown(3), api.ErrUnknown}, {"Barrier", shown(4, "undo"), api.ErrUnknown},
		{"Permitted", nil, api.ErrUnknown}, {"Blocked", nil, api.ErrUnknown}, {"Story", nil, api.ErrUnknown}, {"Permitted", shown(1, "undo"), api.ErrUnknown}, {"Permitted", shown(2), api.OK}, {"Blocked", shown(2), api.OK},
		{"Silent", nil, api.OK}, {"Replay", nil, api.OK}, {"AsOf", nil, api.OK},
	} {
		arguments := shownGiven()
		arguments.events = x.events
		results := all[x.name].f(arguments)
		if x.e != api.OK {
			checkError(t, fmt.Sprintf("%v %v", x.name, i), results, x.e)
			continue
		}
		want(t, fmt.Sprintf("%v %v", x.name, i), results[len(results)-1:], list(api.OK))
	}
}

// guarded returns a list with room behind it, and whether nobody wrote into it or its room.
func guarded[T comparable](l []T, guard T) ([]T, func() bool) {
	room := append(slices.Clone(l), guard, guard, guard)
	before := slices.Clone(room)
	return room[:len(l)], func() bool { return slices.Equal(room, before) }
}

// guardedEvents returns events with room behind them and their lists, and whether nobody wrote into it.
func guardedEvents(l []api.Event) ([]api.Event, func() bool) {
	guard := api.Event{Number: 99, Kind: "guard"}
	room := append(slices.Clone(l), guard, guard, guard)
	var areSame []func() bool
	for i := range room {
		names, areNames := guarded(room[i].Names, "guard")
		values, areValues := guarded(room[i].Values, 99)
		room[i].Names, room[i].Values = names, values
		areSame = append(areSame, areNames, areValues)
	}
	before := slices.Clone(room)
	return room[:len(l)], func() bool {
		areEqual := slices.EqualFunc(room, before, func(a, b api.Event) bool { return same(reflect.ValueOf(a), reflect.ValueOf(b)) })
		return areEqual && !slices.ContainsFunc(areSame, func(isSame func() bool) bool { return !isSame() })
	}
}

// spoil writes over all elements of the lists of a value, and of what is behind them within their room.
func spoil(v reflect.Value) {
	switch v.Kind() {
	case reflect.Slice:
		whole := v.Slice(0, v.Cap())
		for i := range whole.Len() {
			spoil(whole.Index(i))
			whole.Index(i).SetZero()
		}
	case reflect.Struct:
		for i := range v.NumField() {
			spoil(v.Field(i))
		}
	case reflect.Interface:
		spoil(v.Elem())
	}
}

// TestNoMemoryIsShared checks of all functions that the arguments stay, and that results are new memory.
func TestNoMemoryIsShared(t *testing.T) {
	for _, c := range calls() {
		x := shownGiven()
		x.events = append(x.events, journal(append(shownLines(13), "undo", "take q up 8 300 400", "fault g up 8 1 2 3", "in m p 8")...)[13:14]...)
		events, areSame := guardedEvents(x.events)
		last := c.f(x)
		x.events = events
		one, isSame := guardedEvents([]api.Event{x.event})
		x.event = one[0]
		first, again := c.f(x), c.f(x)
		spoil(reflect.ValueOf(first))
		want(t, c.name+" and its arguments", list(areSame(), isSame()), list(true, true))
		want(t, c.name+" again", again, last)
		for _, l := range []any{x.events, x.event.Names, x.event.Values} {
			spoil(reflect.ValueOf(l))
		}
		want(t, c.name+" when the arguments are written over", again, last)
	}
}

// TestEventsShareNoMemory checks that what is got of a log or a session is new memory, also one event of the other ones.
func TestEventsShareNoMemory(t *testing.T) {
	s, _ := possession.Open(shownLog(15))
	for name, get := range map[string]func() []api.Event{
		"Events":  s.Events,
		"Recover": func() []api.Event { l, _, _ := possession.Recover(shownLog(15)); return l },
		"Story":   func() []api.Event { l, _ := possession.Story(shown(15), "up"); return l },
	} {
		for i := range 15 {
			l, wanted := get(), shown(15)
			spoil(reflect.ValueOf(l[i].Names))
			spoil(reflect.ValueOf(l[i].Values))
			want(t, name, list(i, l[:i], l[i+1:]), list(i, wanted[:i], wanted[i+1:]))
			spoil(reflect.ValueOf(l))
			want(t, name+" again", list(i, get()), list(i, wanted))
		}
	}
	want(t, "the log of the session", list(s.Log()), list(shownLog(15)))
	for i, line := range words("speed up", "barrier p", "taken") {
		result, e := s.Do(line)
		want(t, "Do", list(line, result, e), list(line, words("160", "none", "none")[i], api.OK))
	}
}

// TestSessionsAreApart checks that sessions of one log go different ways.
func TestSessionsAreApart(t *testing.T) {
	a, _ := possession.Open(shownLog(13))
	b, _ := possession.Open(shownLog(13))
	doAll(t, "one session", a, done{"return p 9", "done 14", api.OK}, done{"speed up", "80", api.OK})
	doAll(t, "another one", b, done{"speed up", "160", api.OK}, done{"undo", "done 14", api.OK}, done{"barrier p", "measurement", api.OK})
	doAll(t, "one session", a, done{"raise p 9 90", "done 15", api.OK}, done{"undo", "done 16", api.OK}, done{"raise p 9 100", "done 17", api.OK}, done{"speed up", "100", api.OK})
	want(t, "Events", list(a.Events(), b.Events()), list(shown(14, "raise p 9 90", "undo", "raise p 9 100"), shown(13, "undo")))
}

// anyInt returns any integer, anyWord any word.
func anyInt(g *rand.Rand) int {
	return oneOf(g, ints(math.MinInt, -1000000000, -1, 0, 1, 2, 5, 100, 400, 401, 1000, 1001, 999999999, 1000000000, math.MaxInt))
}

func anyWord(g *rand.Rand) string {
	return oneOf(g, words("", " ", "up", "p", "f", "t", "track", "undo", "note", "a b", "\n", "#", "\xff", "9", strings.Repeat("a", 24), strings.Repeat("a", 25)))
}

// anyList returns up to n elements, or none.
func anyList[T any](g *rand.Rand, n int, any func() T) []T {
	var l []T
	for range g.IntN(n + 1) {
		l = append(l, any())
	}
	return l
}

// anyEvent returns any event, or one that is well-formed.
func anyEvent(g *rand.Rand) api.Event {
	if g.IntN(2) == 0 {
		e := event(g.IntN(20), oneOf(g, shownLines(15)))
		e.Number = g.IntN(20)
		return e
	}
	return api.Event{
		Number: anyInt(g), Kind: oneOf(g, append(kinds(), anyWord(g))), Text: oneOf(g, words("", "", anyWord(g))),
		Names: anyList(g, 3, func() string { return anyWord(g) }), Values: anyList(g, 5, func() int { return anyInt(g) }),
	}
}

// anyGiven returns any arguments: those of the examples, of which some were changed.
func anyGiven(g *rand.Rand) given {
	x := given{shown(g.IntN(16)), anyEvent(g), g.IntN(12), oneOf(g, words("up", "up", anyWord(g))), oneOf(g, words("p", "p", anyWord(g))), shownLog(g.IntN(16))}
	if g.IntN(4) == 0 && len(x.events) > 0 {
		x.events[g.IntN(len(x.events))] = anyEvent(g)
	}
	if g.IntN(8) == 0 {
		x.events = anyList(g, 6, func() api.Event { return anyEvent(g) })
	}
	if g.IntN(2) == 0 {
		x.event.Number = len(x.events) + 1
	}
	if g.IntN(6) == 0 {
		x.tick = anyInt(g)
	}
	if g.IntN(3) == 0 {
		k := g.IntN(len(x.log) + 1)
		x.log = x.log[:k] + anyWord(g) + x.log[k:]
	}
	return x
}

// results returns the results of all functions, and of a session with these arguments.
func (x given) results() []any {
	var results []any
	for _, c := range calls() {
		results = append(results, c.f(x)...)
	}
	s, e := possession.Open(x.log)
	if s == nil {
		s = possession.New()
	}
	result, f := s.Do(lineOf(x.event))
	answer, g := s.Do(x.track + " " + x.possession)
	return append(results, e, result, f, answer, g, s.Events(), s.Log())
}

// TestAnyArguments checks that no function panics or does not terminate, that each returns the same results again, and that none changes its arguments.
func TestAnyArguments(t *testing.T) {
	for seed := range uint64(2000) {
		x := anyGiven(source(seed))
		want(t, "results again", list(seed, x.results()), list(seed, x.results()))
		if untouched := anyGiven(source(seed)); !same(reflect.ValueOf(x.events), reflect.ValueOf(untouched.events)) || !same(reflect.ValueOf(x.event), reflect.ValueOf(untouched.event)) {
			t.Errorf("arguments %v: got %v, want %v", seed, x, untouched)
		}
	}
}

// TestZeroBesideErrors checks that beside an error every other result is its zero value, but for those of Replay and Recover that tell where it is.
func TestZeroBesideErrors(t *testing.T) {
	g := source(60)
	right := map[string]int{}
	for range 3000 {
		x := anyGiven(g)
		for _, c := range calls() {
			results := c.f(x)
			e := results[len(results)-1].(api.Errno)
			switch {
			case e == api.OK && c.name == "Replay":
				want(t, "the number of Replay", list(results[1]), list(0))
				fallthrough
			case e == api.OK:
				right[c.name]++
			case c.name == "Recover":
				want(t, "Recover beside an error", list(strings.Count(x.log[:results[1].(int)], "\n")), list(len(results[0].([]api.Event))))
			case c.name == "Replay":
				want(t, "Replay beside an error", list(results[0]), list(possession.Register{}))
			default:
				checkError(t, c.name, results, e)
			}
		}
	}
	for _, c := range calls() {
		if right[c.name] < 50 {
			t.Errorf("too few results of %v: %v", c.name, right[c.name])
		}
	}
}

// TestHugeArguments checks that lists of many elements, and long strings, are refused.
func TestHugeArguments(t *testing.T) {
	const many = 200000
	huge := strings.Repeat("a", many)
	e := event(1, "undo")
	e.Names, e.Values = slices.Repeat(words("a"), many), make([]int, many)
	want(t, "CheckEvent", list(possession.CheckEvent(e)), list(api.ErrShape))
	e = event(1, "out "+huge+" 0")
	want(t, "CheckEvent", list(possession.CheckEvent(e)), list(api.ErrName))
	e = event(1, "undo")
	e.Kind, e.Text = huge, huge
	want(t, "CheckEvent", list(possession.CheckEvent(e)), list(api.ErrKind))
	want(t, "Accepts", list(possession.Accepts(make([]api.Event, many), e)), list(api.ErrMany))
	_, n, bad := possession.Recover(strings.Repeat("#", 999999) + "\n")
	want(t, "Recover", list(n, bad), list(0, api.ErrSyntax))
	_, n, bad = possession.Recover(strings.Repeat("a", 999991) + "#0000000\n")
	want(t, "Recover", list(n, bad), list(0, api.ErrCheck))
	_, n, bad = possession.Recover(strings.Repeat("a ", 499995) + "#0000000\n")
	want(t, "Recover", list(n, bad), list(0, api.ErrCheck))
}
