package profile_test

import (
	"math"
	"math/rand/v2"
	"reflect"
	"slices"
	"testing"

	"versine/api"
	"versine/profile"
	"versine/sample"
)

// guarded returns a list with room behind it, and whether nobody wrote into it or its room.
func guarded[T comparable](l []T, guard T) ([]T, func() bool) {
	room := append(slices.Clone(l), guard, guard, guard)
	before := slices.Clone(room)
	return room[:len(l)], func() bool { return slices.Equal(room, before) }
}

// guard makes all lists of arguments guarded ones, and returns whether all of them are the same.
func (x *given) guard() func() bool {
	areSame := make([]func() bool, 8)
	x.nominal, areSame[0] = guarded(x.nominal, point(98, 99))
	x.p, areSame[1] = guarded(x.p, point(98, 99))
	x.columns, areSame[2] = guarded(x.columns, 99)
	x.run.Samples, areSame[3] = guarded(x.run.Samples, 99)
	x.run.Holes, areSame[4] = guarded(x.run.Holes, span(98, 99))
	x.probes, areSame[5] = guarded(x.probes, 99)
	x.echoes, areSame[6] = guarded(x.echoes, profile.Echo{Probe: 99})
	x.rules, areSame[7] = guarded(x.rules, profile.Rule{Class: "guard"})
	return func() bool {
		return !slices.ContainsFunc(areSame, func(isSame func() bool) bool { return !isSame() })
	}
}

// spoil writes over all elements of the lists of a value, and of what is behind them within their room.
func spoil(v reflect.Value) {
	switch v.Kind() {
	case reflect.Slice:
		whole := v.Slice(0, v.Cap())
		for i := range whole.Len() {
			spoil(whole.Index(i))
			whole.Index(i).SetZero()
		}
	case reflect.Struct:
		for i := range v.NumField() {
			spoil(v.Field(i))
		}
	case reflect.Interface:
		spoil(v.Elem())
	}
}

// TestNoMemoryIsShared checks of all functions that the arguments stay, and that results are new memory.
func TestNoMemoryIsShared(t *testing.T) {
	for _, c := range calls() {
		x := shownGiven()
		areSame := x.guard()
		first, again, last := c.f(x), c.f(x), c.f(shownGiven())
		spoil(reflect.ValueOf(first))
		want(t, c.name+" and its arguments", list(areSame()), list(true))
		want(t, c.name+" again", again, last)
		for _, l := range []any{x.nominal, x.p, x.columns, x.run.Samples, x.run.Holes, x.probes, x.echoes, x.rules} {
			spoil(reflect.ValueOf(l))
		}
		want(t, c.name+" of spoiled arguments", again, last)
	}
	p, _, _ := profile.Parse(nominalText)
	spoil(reflect.ValueOf(p))
	p, line, e := profile.Parse(nominalText)
	want(t, "Parse again", list(p, line, e), list(nominal(), 0, api.OK))
}

// TestUnchangedProfilesAreNew checks that a profile that stays as it is comes back in new memory.
func TestUnchangedProfilesAreNew(t *testing.T) {
	p := nominal()
	moved, _ := profile.Moved(p, [2]int{})
	plain, _ := profile.Plain(p)
	level := shape(-1, 0, 0, 3, 1, 0)
	mirrored, _ := profile.Mirrored(level)
	spoil(reflect.ValueOf(p))
	spoil(reflect.ValueOf(level))
	want(t, "new profiles", list(moved, plain, mirrored), list(nominal(), nominal(), shape(-1, 0, 0, 3, 1, 0)))
}

// TestListsShareNoMemory checks it of the lists of clusters, and of their classes.
func TestListsShareNoMemory(t *testing.T) {
	clusters, _ := profile.Clusters(shownProbes(), shownEchoes(), 0)
	for i, l := range clusters {
		for k := range l {
			l[k] = 10*i + k
		}
		_ = append(l, 5000)
	}
	want(t, "the clusters", list(clusters), list([][]int{{0, 1}, {10}, {20}}))
	classes, _ := profile.Possible(shownProbes(), shownEchoes(), 1, shownRules())
	for _, l := range classes {
		_ = append(l[:0], "other")
		_ = append(l, "third")
	}
	want(t, "the classes", list(classes), list([][]string{{"other", "hole"}, {"other"}}))
}

// oneOf returns any element of a list.
func oneOf[T any](g *rand.Rand, l []T) T { return l[g.IntN(len(l))] }

func anyInt(g *rand.Rand) int {
	return oneOf(g, []int{math.MinInt, math.MinInt + 1, -api.MaxPlace - 1, -100001, -10001, -10000, -101, -100, -4, -3, -1, 0, 0, 1, 1, 2, 3, 4, 5, 8, 9, 24, 25, 64, 65, 100, 101, 1000, 1001, 10000, 10001, 100000, 100001, api.MaxPlace, api.MaxPlace + 1, math.MaxInt - 1, math.MaxInt})
}

func anyInts(g *rand.Rand) []int {
	l := make([]int, g.IntN(4))
	for i := range l {
		l[i] = anyInt(g)
	}
	return l
}

func anySample(g *rand.Rand) float32 {
	return oneOf(g, []float32{0, minusZero, 1, -1, 0.0625, 1024, -1024, 1024.0625, 0.03125, nan, infinite, -infinite, math.MaxFloat32, math.SmallestNonzeroFloat32})
}

func anyProfile(g *rand.Rand) profile.Profile {
	switch g.IntN(6) {
	case 0:
		return oneOf(g, badProfiles()).x
	case 1:
		var p profile.Profile
		for range g.IntN(4) {
			p = append(p, point(anyInt(g), anyInt(g)))
		}
		return p
	case 2:
		return long(oneOf(g, []int{2, 23, 24, 25}))
	case 3:
		return someProfile(g, 5, -10000, 10000, 10000)
	}
	return someProfile(g, 6, -3, 45, 20)
}

func anyColumns(g *rand.Rand) []int {
	switch g.IntN(5) {
	case 0:
		return oneOf(g, badColumns()).x
	case 1:
		return anyInts(g)
	}
	return someColumns(g, 4, 5, 30)
}

func anyRun(g *rand.Rand) sample.Run {
	switch g.IntN(4) {
	case 0:
		return oneOf(g, badRuns()).x
	case 1:
		return sample.Run{Name: oneOf(g, []string{"a", ""}), First: anyInt(g), Samples: constant(anySample(g), g.IntN(9)), Holes: constant(span(anyInt(g), anyInt(g)), g.IntN(2))}
	}
	integers := make([]int, g.IntN(20))
	for i := range integers {
		integers[i] = oneOf(g, []int{none, 0, 1, -1, 16384, -16384, 5})
	}
	return run(g.IntN(9), integers...)
}

// anyEchoes returns probes, echoes, a reach and rules of any form.
func anyEchoes(g *rand.Rand, x *given) {
	x.probes, x.echoes = someEchoes(g, 9)
	x.reach, x.rules = g.IntN(7), someRules(g)
	switch g.IntN(8) {
	case 0:
		x.probes = oneOf(g, badProbes()).x
	case 1:
		x.probes = anyInts(g)
	case 2:
		x.echoes = oneOf(g, badEchoes()).x
	case 3:
		x.echoes = constant(profile.Echo{Probe: anyInt(g), Place: anyInt(g), Delay: anyInt(g)}, g.IntN(4))
	case 4:
		x.reach = anyInt(g)
	case 5:
		x.rules = oneOf(g, badRules()).x
	case 6:
		x.rules = constant(rule(oneOf(g, []string{"a", "", "9"}), anyInt(g), anyInt(g), 0, 9, anyInt(g), 9, 0, anyInt(g)), g.IntN(3))
	}
}

func anyText(g *rand.Rand) string {
	s := oneOf(g, []string{"", nominalText, "point 1 2\npoint ", "point "})
	for range g.IntN(4) {
		s += oneOf(g, []string{"point", "point 50 1\n", "point 60 -7\n", "70", "0", "1", "-1", "01", "9999999999", "", " ", "\n", "\n", "\xff", "\x00", "é"})
		s += oneOf(g, []string{"", " "})
	}
	return s
}

// anyGiven returns arguments of any form, of which some fit together.
func anyGiven(g *rand.Rand) given {
	x := shownGiven()
	x.nominal, x.p = anyProfile(g), anyProfile(g)
	if g.IntN(3) == 0 {
		x.nominal, x.p = nominal(), worn()
	}
	x.columns, x.run, x.text = anyColumns(g), anyRun(g), anyText(g)
	for _, n := range []*int{&x.by[0], &x.by[1], &x.most, &x.column, &x.a, &x.b, &x.centre, &x.amplitude, &x.shift} {
		if *n = g.IntN(9); g.IntN(6) == 0 {
			*n = anyInt(g)
		}
	}
	if g.IntN(2) == 0 {
		x.centre, x.b = x.centre+x.amplitude, x.b+20
	}
	anyEchoes(g, &x)
	return x
}

// results returns the results of all functions for these arguments.
func (x given) results() []any {
	var results []any
	for _, c := range calls() {
		results = append(results, c.f(x)...)
	}
	p, line, e := profile.Parse(x.text)
	return append(results, p, line, e)
}

// alike is same for arguments, in which NaN is like NaN, and 0 is not -0.
func alike(a, b reflect.Value) bool {
	return areEqual(a, b, func(x, y float32) bool { return math.Float32bits(x) == math.Float32bits(y) })
}

// TestAnyArguments checks that no function panics or does not terminate, that each returns the same results again, and that none changes its arguments.
func TestAnyArguments(t *testing.T) {
	for seed := range uint64(2000) {
		x := anyGiven(source(seed))
		want(t, "results again", list(seed, x.results()), list(seed, x.results()))
		if untouched := anyGiven(source(seed)); !alike(reflect.ValueOf(x), reflect.ValueOf(untouched)) {
			t.Errorf("arguments %v: got %v, want %v", seed, x, untouched)
		}
	}
}

// TestZeroBesideErrors checks that beside an error every other result is its zero value, and that all results are well-formed otherwise.
func TestZeroBesideErrors(t *testing.T) {
	g := source(50)
	right := map[string]int{}
	for range 3000 {
		x := anyGiven(g)
		for _, c := range calls() {
			results := c.f(x)
			if e := results[len(results)-1].(api.Errno); e != api.OK {
				checkError(t, c.name, results, e)
				continue
			}
			right[c.name]++
			checkForm(t, c.name, results)
		}
		p, line, e := profile.Parse(x.text)
		switch {
		case e == api.OK:
			right["Parse"]++
			want(t, "Parse", list(line, profile.CheckProfile(p)), list(0, api.OK))
		default:
			want(t, "Parse beside an error", list(p), list(profile.Profile(nil)))
		}
	}
	for _, c := range calls() {
		if right[c.name] < 150 {
			t.Errorf("too few results of %v: %v", c.name, right[c.name])
		}
	}
	if right["Parse"] < 150 {
		t.Errorf("too few texts are parsed: %v", right["Parse"])
	}
}

// checkForm checks that results without an error are well-formed.
func checkForm(t *testing.T, name string, results []any) {
	t.Helper()
	for _, result := range results {
		e := api.OK
		switch y := result.(type) {
		case profile.Profile:
			e = profile.CheckProfile(y)
		case api.Ratio:
			e = sample.CheckRatio(y)
		}
		want(t, name+" is well-formed", list(result, e), list(result, api.OK))
	}
}
