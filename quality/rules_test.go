package quality_test

import (
	"math"
	"math/rand/v2"
	"reflect"
	"slices"
	"testing"

	"versine/api"
	"versine/quality"
	"versine/sample"
)

// guarded returns a list with room behind it, and whether nobody wrote into it or its room.
func guarded[T comparable](l []T, guard T) ([]T, func() bool) {
	room := append(slices.Clone(l), guard, guard, guard)
	before := slices.Clone(room)
	return room[:len(l)], func() bool { return slices.Equal(room, before) }
}

// guard makes all lists of arguments guarded ones, and returns whether all of them are the same.
func (x *given) guard() func() bool {
	areSame := make([]func() bool, 4)
	x.run.Samples, areSame[0] = guarded(x.run.Samples, 99)
	x.run.Holes, areSame[1] = guarded(x.run.Holes, span(98, 99))
	x.section.Measured, areSame[2] = guarded(x.section.Measured, measurement(98, 99))
	x.section.Acts, areSame[3] = guarded(x.section.Acts, act(99, "guard"))
	x.sections = slices.Clone(x.sections)
	for i := range x.sections {
		isMeasured, isActs := func() bool { return true }, func() bool { return true }
		x.sections[i].Measured, isMeasured = guarded(x.sections[i].Measured, measurement(98, 99))
		x.sections[i].Acts, isActs = guarded(x.sections[i].Acts, act(99, "guard"))
		areSame = append(areSame, isMeasured, isActs)
	}
	names := namesOf(x.sections)
	areSame = append(areSame, func() bool { return slices.Equal(names, namesOf(x.sections)) })
	return func() bool {
		return !slices.ContainsFunc(areSame, func(isSame func() bool) bool { return !isSame() })
	}
}

// namesOf returns the names of sections.
func namesOf(l []quality.Section) []string {
	var names []string
	for _, s := range l {
		names = append(names, s.Name)
	}
	return names
}

// spoil writes over all elements of the lists of a value, and of what is behind them within their room.
func spoil(v reflect.Value) {
	switch v.Kind() {
	case reflect.Slice:
		whole := v.Slice(0, v.Cap())
		for i := range whole.Len() {
			spoil(whole.Index(i))
			whole.Index(i).SetZero()
		}
	case reflect.Struct:
		for i := range v.NumField() {
			spoil(v.Field(i))
		}
	case reflect.Interface:
		spoil(v.Elem())
	}
}

// TestNoMemoryIsShared checks of all functions that the arguments stay, and that results are new memory.
func TestNoMemoryIsShared(t *testing.T) {
	for _, c := range calls() {
		x := shownGiven()
		areSame := x.guard()
		first, again, last := c.f(x), c.f(x), c.f(shownGiven())
		spoil(reflect.ValueOf(first))
		want(t, c.name+" and its arguments", list(areSame()), list(true))
		want(t, c.name+" again", again, last)
		for _, l := range []any{x.run, x.section, x.sections} {
			spoil(reflect.ValueOf(l))
		}
		want(t, c.name+" of spoiled arguments", again, last)
	}
	s, _, _ := quality.Parse(shownText)
	spoil(reflect.ValueOf(s))
	s, line, e := quality.Parse(shownText)
	want(t, "Parse again", list(s, line, e), list(north(), 0, api.OK))
}

// TestSectionsShareNoMemory checks that sections that were made from one are different.
func TestSectionsShareNoMemory(t *testing.T) {
	s := quality.Section{Name: "north", Measured: append(make([]quality.Measurement, 0, 32), north().Measured...), Acts: append(make([]quality.Act, 0, 16), north().Acts...)}
	first, _ := quality.Measured(s, measurement(60, 1))
	second, _ := quality.Measured(s, measurement(61, 2))
	third, _ := quality.Done(s, act(62, "c"))
	fourth, _ := quality.Done(s, act(63, "d"))
	fifth, _ := quality.Measured(first, measurement(64, 5))
	sixth, _ := quality.Done(first, act(65, "f"))
	want(t, "the measurements", list(first.Measured[6:], second.Measured[6:], third.Measured, fourth.Measured, fifth.Measured[6:], sixth.Measured[6:]),
		list(measured(60, 1), measured(61, 2), north().Measured, north().Measured, measured(60, 1, 64, 5), measured(60, 1)))
	want(t, "the interventions", list(first.Acts, second.Acts, third.Acts[1:], fourth.Acts[1:], fifth.Acts, sixth.Acts[1:]),
		list(north().Acts, north().Acts, []quality.Act{act(62, "c")}, []quality.Act{act(63, "d")}, north().Acts, []quality.Act{act(65, "f")}))
	spoil(reflect.ValueOf(s))
	spoil(reflect.ValueOf(first))
	want(t, "the sections of spoiled ones", list(second.Measured[:6], fifth.Measured[:6], fifth.Acts, sixth.Acts[:1]), list(north().Measured, north().Measured, north().Acts, north().Acts))
}

// oneOf returns any element of a list.
func oneOf[T any](g *rand.Rand, l []T) T { return l[g.IntN(len(l))] }

func anyInt(g *rand.Rand) int {
	return oneOf(g, []int{math.MinInt, math.MinInt + 1, -api.MaxPlace - 1, -1000001, -1000000, -16385, -16384, -2, -1, 0, 0, 1, 1, 2, 3, 5, 16, 17, 32, 33, 256, 257, 4096, 4097, 16384, 16385, 99999, 100000, 100001, 1000000, 1000001, 268435456, 268435457, api.MaxPlace, api.MaxPlace + 1, math.MaxInt - 1, math.MaxInt})
}

func anySample(g *rand.Rand) float32 {
	return oneOf(g, []float32{0, minusZero, 1, -1, 0.0625, 1024, -1024, 1024.0625, 0.03125, nan, infinite, -infinite, math.MaxFloat32, math.SmallestNonzeroFloat32})
}

func anyName(g *rand.Rand) string { return oneOf(g, []string{"", "a", "b", "na", "nb", "9", "\xff"}) }

func anySpan(g *rand.Rand) api.Span { return span(anyInt(g), anyInt(g)) }

func anyRun(g *rand.Rand) sample.Run {
	switch g.IntN(5) {
	case 0:
		return oneOf(g, badRuns()).x
	case 1:
		return sample.Run{Name: anyName(g), First: anyInt(g), Samples: constant(anySample(g), g.IntN(9)), Holes: constant(anySpan(g), g.IntN(2))}
	}
	return someRun(g, 20, 1<<between(g, 1, 14))
}

// anyList returns a few elements of any form.
func anyList[T any](g *rand.Rand, n int, element func() T) []T {
	var l []T
	for range g.IntN(n) {
		l = append(l, element())
	}
	return l
}

func anyMoments(g *rand.Rand) quality.Moments {
	switch g.IntN(5) {
	case 0:
		return oneOf(g, badMoments()).x
	case 1:
		return moments(anyInt(g), anyInt(g), anyInt(g))
	}
	n := g.IntN(4097)
	sum := g.IntN(n*100 + 1)
	return moments(n, sum, sum*sum/max(n, 1)+min(n, 1))
}

func anySection(g *rand.Rand) quality.Section {
	switch g.IntN(6) {
	case 0:
		return oneOf(g, badSections()).x
	case 1:
		return quality.Section{Name: anyName(g), Measured: anyList(g, 4, func() quality.Measurement { return measurement(anyInt(g), anyInt(g)) }), Acts: anyList(g, 4, func() quality.Act { return act(anyInt(g), anyName(g)) })}
	}
	return someSection(g, 12, 2, 1<<between(g, 2, 15), 1<<between(g, 1, 16))
}

func anyLine(g *rand.Rand) quality.Line {
	switch g.IntN(4) {
	case 0:
		return oneOf(g, badLines()).x
	case 1:
		return line(anyInt(g), anyInt(g), anyInt(g), anyInt(g), anyInt(g))
	}
	return line(g.IntN(1000), between(g, -9, 9), 1, between(g, -9, 9), 1)
}

func anyText(g *rand.Rand) string {
	s := oneOf(g, []string{"", shownText, shownText, "section a\n", "section a\nmeasured 5 5\nact "})
	for range g.IntN(4) {
		s += oneOf(g, []string{"section", "measured", "act", "measured 60 5\n", "measured 1 100001\n", "act 61 a\n", "act 7 9\n", "70", "0", "1", "-1", "01", "9999999999", "", " ", "\n", "\n", "\xff", "\x00", "é"})
		s += oneOf(g, []string{"", "", " "})
	}
	return s
}

// anyGiven returns arguments of any form, of which some fit together.
func anyGiven(g *rand.Rand) given {
	x := shownGiven()
	x.a, x.b, x.run, x.section, x.line, x.text = anyMoments(g), anyMoments(g), anyRun(g), anySection(g), anyLine(g), anyText(g)
	x.places = span(x.run.First+g.IntN(3), x.run.First+g.IntN(9))
	if g.IntN(6) == 0 {
		x.places = anySpan(g)
	}
	last := 0
	for _, m := range x.section.Measured {
		last = max(last, min(m.Day, api.MaxDay))
	}
	x.m, x.act = measurement(last+g.IntN(9), g.IntN(100)), act(last+g.IntN(9), oneOf(g, []string{"a", "b"}))
	if g.IntN(6) == 0 {
		x.m, x.act = measurement(anyInt(g), anyInt(g)), act(anyInt(g), anyName(g))
	}
	x.sections = anyList(g, 4, func() quality.Section { return anySection(g) })
	for i := range x.sections {
		if x.sections[i].Name == "some" {
			x.sections[i].Name = nameOf(i)
		}
	}
	x.period, x.number = g.IntN(len(x.section.Acts)+1), g.IntN(len(x.section.Acts)+1)
	x.size, x.wrong = between(g, 2, 9), g.IntN(1<<g.IntN(16))
	for _, n := range []*int{&x.variance, &x.day, &x.limit} {
		*n = g.IntN(200)
	}
	for _, n := range []*int{&x.size, &x.variance, &x.period, &x.day, &x.limit, &x.number, &x.wrong} {
		if g.IntN(12) == 0 {
			*n = anyInt(g)
		}
	}
	return x
}

// results returns the results of all functions for these arguments.
func (x given) results() []any {
	var results []any
	for _, c := range calls() {
		results = append(results, c.f(x)...)
	}
	s, line, e := quality.Parse(x.text)
	return append(results, s, line, e)
}

// alike is same for arguments, in which NaN is like NaN, and 0 is not -0.
func alike(a, b reflect.Value) bool {
	return areEqual(a, b, func(x, y float32) bool { return math.Float32bits(x) == math.Float32bits(y) })
}

// TestAnyArguments checks that no function panics or does not terminate, that each returns the same results again, and that none changes its arguments.
func TestAnyArguments(t *testing.T) {
	for seed := range uint64(4000) {
		x := anyGiven(source(seed))
		want(t, "results again", list(seed, x.results()), list(seed, x.results()))
		if untouched := anyGiven(source(seed)); !alike(reflect.ValueOf(x), reflect.ValueOf(untouched)) {
			t.Errorf("arguments %v: got %v, want %v", seed, x, untouched)
		}
	}
}

// TestZeroBesideErrors checks that beside an error every other result is its zero value, and that all results are well-formed otherwise.
func TestZeroBesideErrors(t *testing.T) {
	g := source(50)
	right := map[string]int{}
	for range 4000 {
		x := anyGiven(g)
		for _, c := range calls() {
			results := c.f(x)
			if e := results[len(results)-1].(api.Errno); e != api.OK {
				checkError(t, c.name, results, e)
				continue
			}
			right[c.name]++
			checkForm(t, c.name, results)
		}
		s, line, e := quality.Parse(x.text)
		switch {
		case e == api.OK:
			right["Parse"]++
			want(t, "Parse", list(line, quality.CheckSection(s)), list(0, api.OK))
		default:
			want(t, "Parse beside an error", list(s), list(quality.Section{}))
		}
	}
	for _, c := range calls() {
		if right[c.name] < 100 {
			t.Errorf("too few results of %v: %v", c.name, right[c.name])
		}
	}
	if right["Parse"] < 100 {
		t.Errorf("too few texts are parsed: %v", right["Parse"])
	}
}

// checkForm checks that results without an error are well-formed.
func checkForm(t *testing.T, name string, results []any) {
	t.Helper()
	isLowest := func(x api.Ratio) bool { return x.Den > 0 && ratioOf(rat(x)) == x }
	for _, result := range results {
		isRight := true
		switch y := result.(type) {
		case quality.Section:
			isRight = quality.CheckSection(y) == api.OK
		case quality.Moments:
			isRight = quality.CheckMoments(y) == api.OK
		case api.Ratio:
			isRight = isLowest(y)
		case [2]api.Ratio:
			isRight = isLowest(y[0]) && isLowest(y[1])
		case quality.Line:
			isRight = isLowest(y.Level) && isLowest(y.Slope)
		}
		want(t, name+" is well-formed", list(result, isRight), list(result, true))
	}
}
