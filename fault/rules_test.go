package fault_test

import (
	"math"
	"math/rand/v2"
	"reflect"
	"slices"
	"testing"

	"versine/api"
	"versine/fault"
	"versine/sample"
)

// guarded returns a list with room behind it, and whether nobody wrote into it or its room.
func guarded[T comparable](l []T, guard T) ([]T, func() bool) {
	room := append(slices.Clone(l), guard, guard, guard)
	before := slices.Clone(room)
	return room[:len(l)], func() bool { return slices.Equal(room, before) }
}

// guard makes all lists of arguments guarded ones, and returns whether all of them are the same.
func (x *given) guard() func() bool {
	areSame := make([]func() bool, 9)
	x.limits.Rows, areSame[0] = guarded(x.limits.Rows, fault.Row{Speed: 99})
	x.run.Samples, areSame[1] = guarded(x.run.Samples, 99)
	x.run.Holes, areSame[2] = guarded(x.run.Holes, span(98, 99))
	x.later.Samples, areSame[3] = guarded(x.later.Samples, 99)
	x.later.Holes, areSame[4] = guarded(x.later.Holes, span(98, 99))
	x.faults, areSame[5] = guarded(x.faults, found(98, 99, 0, true))
	x.office.Messages, areSame[6] = guarded(x.office.Messages, withdraws(99, "guard"))
	x.post.Force, areSame[7] = guarded(x.post.Force, restriction("guard", 98, 99, 0))
	x.rounds = slices.Clone(x.rounds)
	x.rounds[0].Lost, areSame[8] = guarded(x.rounds[0].Lost, 99)
	return func() bool {
		return !slices.ContainsFunc(areSame, func(isSame func() bool) bool { return !isSame() })
	}
}

// spoil writes over all elements of the lists of a value, and of what is behind them within their room.
func spoil(v reflect.Value) {
	switch v.Kind() {
	case reflect.Slice:
		whole := v.Slice(0, v.Cap())
		for i := range whole.Len() {
			spoil(whole.Index(i))
			whole.Index(i).SetZero()
		}
	case reflect.Struct:
		for i := range v.NumField() {
			spoil(v.Field(i))
		}
	case reflect.Interface:
		spoil(v.Elem())
	}
}

// unsharing returns arguments for which functions could most easily return memory of an argument.
func unsharing() map[string]given {
	l := map[string]given{"shown": shownGiven()}
	change := func(name string, set func(x *given)) {
		x := shownGiven()
		set(&x)
		l[name] = x
	}
	change("a message that does not arrive", func(x *given) { x.message.Number = 9 })
	change("a message that imposes", func(x *given) { x.message = imposes(3, restriction("c", 1, 2, 3)) })
	change("a quiet round", func(x *given) { x.rounds = []fault.Round{{Lost: ints(1, 2, 3)}} })
	change("a quiet and deaf round", func(x *given) { x.rounds = []fault.Round{{Lost: ints(1, 2, 3), Deaf: true}} })
	change("all acknowledged", func(x *given) { x.office, x.post, x.answer = shownOffice(3), post(3, b()), 0 })
	change("nothing acknowledged", func(x *given) { x.office, x.post, x.answer = shownOffice(0), post(2, a(), b()), 3 })
	change("no gap", func(x *given) { x.gap = 0 })
	return l
}

// TestNoMemoryIsShared checks of all functions that the arguments stay, and that results are new memory.
func TestNoMemoryIsShared(t *testing.T) {
	for what, given := range unsharing() {
		for _, c := range calls() {
			x := given
			areSame := x.guard()
			first, again, last := c.f(x), c.f(x), c.f(given)
			spoil(reflect.ValueOf(first))
			want(t, c.name+" and its arguments: "+what, list(areSame()), list(true))
			want(t, c.name+" again: "+what, again, last)
			for _, l := range []any{x.limits, x.run, x.later, x.faults, x.office, x.post, x.rounds} {
				spoil(reflect.ValueOf(l))
			}
			want(t, c.name+" of spoiled arguments: "+what, again, last)
		}
	}
	p, _, _ := fault.Parse(shownText)
	spoil(reflect.ValueOf(p))
	p, line, e := fault.Parse(shownText)
	want(t, "Parse again", list(p, line, e), list(post(3, b()), 0, api.OK))
}

// TestWithoutRounds checks that no rounds leave office and post as they are, in new memory.
func TestWithoutRounds(t *testing.T) {
	o, p := shownOffice(1), post(2, a(), b())
	after, q, e := fault.Exchanged(o, p, nil)
	spoil(reflect.ValueOf(o))
	spoil(reflect.ValueOf(p))
	want(t, "Exchanged", list(after, q, e), list(shownOffice(1), post(2, a(), b()), api.OK))
}

// TestOfficesShareNoMemory checks that two offices that were made from one are different.
func TestOfficesShareNoMemory(t *testing.T) {
	o := fault.Office{Messages: append(make([]fault.Message, 0, 10), shownOffice(0).Messages...)}
	first, _ := fault.Imposed(o, restriction("c", 1, 2, 3))
	second, _ := fault.Withdrawn(o, "b")
	third, _ := fault.Imposed(first, restriction("d", 4, 5, 6))
	fourth, _ := fault.Withdrawn(first, "c")
	want(t, "the offices", list(o, first.Messages[3], second.Messages[3], third.Messages[3:], fourth.Messages[3:]),
		list(shownOffice(0), imposes(4, restriction("c", 1, 2, 3)), withdraws(4, "b"),
			[]fault.Message{imposes(4, restriction("c", 1, 2, 3)), imposes(5, restriction("d", 4, 5, 6))},
			[]fault.Message{imposes(4, restriction("c", 1, 2, 3)), withdraws(5, "c")}))
}

// oneOf returns any element of a list.
func oneOf[T any](g *rand.Rand, l []T) T { return l[g.IntN(len(l))] }

func anyInt(g *rand.Rand) int {
	return oneOf(g, []int{math.MinInt, math.MinInt + 1, -api.MaxPlace - 1, -16385, -16384, -1001, -2, -1, 0, 0, 1, 1, 2, 3, 5, 12, 13, 63, 64, 65, 256, 257, 500, 501, 1000, 1001, 16384, 16385, 100000, 100001, api.MaxPlace, api.MaxPlace + 1, math.MaxInt - 1, math.MaxInt})
}

func anySample(g *rand.Rand) float32 {
	return oneOf(g, []float32{0, minusZero, 1, -1, 0.0625, 1024, -1024, 1024.0625, 0.03125, nan, infinite, -infinite, math.MaxFloat32, math.SmallestNonzeroFloat32})
}

func anyName(g *rand.Rand) string { return oneOf(g, []string{"", "a", "b", "na", "nb", "9", "\xff"}) }

func anySpan(g *rand.Rand) api.Span { return span(anyInt(g), anyInt(g)) }

func anyRun(g *rand.Rand) sample.Run {
	switch g.IntN(5) {
	case 0:
		return oneOf(g, badRuns()).x
	case 1:
		return sample.Run{Name: anyName(g), First: anyInt(g), Samples: constant(anySample(g), g.IntN(9)), Holes: constant(anySpan(g), g.IntN(2))}
	}
	return someRun(g, 20, 1<<between(g, 1, 14))
}

// anyList returns a few elements of any form.
func anyList[T any](g *rand.Rand, n int, element func() T) []T {
	var l []T
	for range g.IntN(n) {
		l = append(l, element())
	}
	return l
}

func anyLimits(g *rand.Rand) fault.Limits {
	switch g.IntN(5) {
	case 0:
		return oneOf(g, badLimits()).x
	case 1:
		return fault.Limits{Band: anyInt(g), Rows: anyList(g, 3, func() fault.Row { return fault.Row{Speed: anyInt(g), Most: anyInt(g)} })}
	}
	return someLimits(g, 20, 1<<between(g, 1, 14))
}

func anyFaults(g *rand.Rand) []fault.Fault {
	switch g.IntN(4) {
	case 0:
		return oneOf(g, badFaults()).x
	case 1:
		return anyList(g, 4, func() fault.Fault {
			return fault.Fault{Span: anySpan(g), Value: anyInt(g), Sure: g.IntN(2) == 0}
		})
	}
	return someFaults(g, 6)
}

func anyRestriction(g *rand.Rand) fault.Restriction {
	switch g.IntN(4) {
	case 0:
		return oneOf(g, badRestrictions()).x
	case 1:
		return fault.Restriction{Name: anyName(g), Span: anySpan(g), Speed: anyInt(g)}
	}
	return restriction(oneOf(g, []string{"a", "b", "na", "nb"}), g.IntN(20), between(g, 20, 40), g.IntN(501))
}

// anyExchange returns an office, a post, a message and rounds of any form, which mostly fit together.
func anyExchange(g *rand.Rand, x *given) {
	o := someOffice(g, 8, 3)
	x.office, x.post = o, postAfter(o, o.Acked+g.IntN(len(o.Messages)-o.Acked+1))
	x.rounds, x.message = someRounds(g, 3, 8), imposes(min(x.post.Heard+1, 64), anyRestriction(g))
	if x.answer = g.IntN(len(o.Messages) + 1); len(x.post.Force) > 0 && g.IntN(2) == 0 {
		x.message = withdraws(x.message.Number, x.post.Force[0].Name)
	}
	switch g.IntN(12) {
	case 0:
		x.office = oneOf(g, badOffices()).x
	case 1:
		x.office = fault.Office{Acked: anyInt(g), Messages: anyList(g, 4, func() fault.Message {
			return fault.Message{Number: anyInt(g), Withdraw: g.IntN(2) == 0, Restriction: anyRestriction(g)}
		})}
	case 2:
		x.post = oneOf(g, badPosts()).x
	case 3:
		x.post = fault.Post{Heard: anyInt(g), Force: anyList(g, 4, func() fault.Restriction { return anyRestriction(g) })}
	case 4:
		x.message = oneOf(g, badMessages()).x
	case 5:
		x.message = fault.Message{Number: anyInt(g), Withdraw: g.IntN(2) == 0, Restriction: anyRestriction(g)}
	case 6:
		x.rounds = oneOf(g, badRounds()).x
	case 7:
		x.rounds = anyList(g, 4, func() fault.Round {
			return fault.Round{Lost: anyList(g, 3, func() int { return anyInt(g) }), Deaf: g.IntN(2) == 0}
		})
	case 8:
		x.answer = anyInt(g)
	}
}

func anyText(g *rand.Rand) string {
	s := oneOf(g, []string{"", shownText, shownText, "post 1\n", "post 1\nrestriction "})
	for range g.IntN(4) {
		s += oneOf(g, []string{"post", "restriction", "restriction a 1 2 3\n", "restriction c 5 9 500\n", "70", "0", "1", "-1", "01", "9999999999", "", " ", "\n", "\n", "\xff", "\x00", "é"})
		s += oneOf(g, []string{"", "", " "})
	}
	return s
}

// anyGiven returns arguments of any form, of which some fit together.
func anyGiven(g *rand.Rand) given {
	x := shownGiven()
	x.limits, x.run, x.later = anyLimits(g), anyRun(g), anyRun(g)
	if sample.CheckRun(x.run) == api.OK && g.IntN(2) == 0 {
		x.later = likeRun(g, x.run, 100, 16384)
	}
	x.faults, x.restriction, x.text = anyFaults(g), anyRestriction(g), anyText(g)
	x.a, x.b = someMeasured(g, 1000, 1<<between(g, 1, 14))
	if g.IntN(6) == 0 {
		x.a = oneOf(g, badMeasured()).x
	}
	if g.IntN(6) == 0 {
		x.b = measured(anyInt(g), anyInt(g), anyInt(g))
	}
	for _, n := range []*int{&x.speed, &x.value, &x.bands[0], &x.bands[1], &x.gap, &x.limit, &x.place} {
		if *n = 1 + g.IntN(60); g.IntN(6) == 0 {
			*n = anyInt(g)
		}
	}
	anyExchange(g, &x)
	if x.name = anyName(g); g.IntN(2) == 0 && len(x.office.Messages) > 0 {
		x.name = oneOf(g, x.office.Messages).Restriction.Name
	}
	return x
}

// results returns the results of all functions for these arguments.
func (x given) results() []any {
	var results []any
	for _, c := range calls() {
		results = append(results, c.f(x)...)
	}
	p, line, e := fault.Parse(x.text)
	return append(results, p, line, e)
}

// alike is same for arguments, in which NaN is like NaN, and 0 is not -0.
func alike(a, b reflect.Value) bool {
	return areEqual(a, b, func(x, y float32) bool { return math.Float32bits(x) == math.Float32bits(y) })
}

// TestAnyArguments checks that no function panics or does not terminate, that each returns the same results again, and that none changes its arguments.
func TestAnyArguments(t *testing.T) {
	for seed := range uint64(3000) {
		x := anyGiven(source(seed))
		want(t, "results again", list(seed, x.results()), list(seed, x.results()))
		if untouched := anyGiven(source(seed)); !alike(reflect.ValueOf(x), reflect.ValueOf(untouched)) {
			t.Errorf("arguments %v: got %v, want %v", seed, x, untouched)
		}
	}
}

// TestZeroBesideErrors checks that beside an error every other result is its zero value, and that all results are well-formed otherwise.
func TestZeroBesideErrors(t *testing.T) {
	g := source(50)
	right := map[string]int{}
	for range 4000 {
		x := anyGiven(g)
		for _, c := range calls() {
			results := c.f(x)
			if e := results[len(results)-1].(api.Errno); e != api.OK {
				checkError(t, c.name, results, e)
				continue
			}
			right[c.name]++
			checkForm(t, c.name, results)
		}
		p, line, e := fault.Parse(x.text)
		switch {
		case e == api.OK:
			right["Parse"]++
			want(t, "Parse", list(line, fault.CheckPost(p)), list(0, api.OK))
		default:
			want(t, "Parse beside an error", list(p), list(fault.Post{}))
		}
	}
	for _, c := range calls() {
		if right[c.name] < 200 {
			t.Errorf("too few results of %v: %v", c.name, right[c.name])
		}
	}
	if right["Parse"] < 200 {
		t.Errorf("too few texts are parsed: %v", right["Parse"])
	}
}

// checkForm checks that results without an error are well-formed.
func checkForm(t *testing.T, name string, results []any) {
	t.Helper()
	for _, result := range results {
		e := api.OK
		switch y := result.(type) {
		case fault.Office:
			e = fault.CheckOffice(y)
		case fault.Post:
			e = fault.CheckPost(y)
		case []fault.Fault:
			e = fault.CheckFaults(y)
		case []fault.Restriction:
			e = fault.CheckPost(fault.Post{Force: y})
		}
		want(t, name+" is well-formed", list(result, e), list(result, api.OK))
	}
}
