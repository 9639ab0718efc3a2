package align_test

import (
	"math"
	"math/rand/v2"
	"reflect"
	"slices"
	"testing"

	"versine/align"
	"versine/api"
	"versine/sample"
)

// guarded returns a list with room behind it, and whether nobody wrote into it or its room.
func guarded[T comparable](l []T, guard T) ([]T, func() bool) {
	room := append(slices.Clone(l), guard, guard, guard)
	before := slices.Clone(room)
	return room[:len(l)], func() bool { return slices.Equal(room, before) }
}

// guard makes all lists of arguments guarded ones, and returns whether all of them are the same.
func (x *given) guard() func() bool {
	var areSame []func() bool
	add := func(isSame func() bool) { areSame = append(areSame, isSame) }
	keep := func(r *sample.Run) {
		samples, isSame := guarded(r.Samples, 99)
		holes, isOtherSame := guarded(r.Holes, span(98, 99))
		r.Samples, r.Holes = samples, holes
		add(isSame)
		add(isOtherSame)
	}
	marks, isSame := guarded(x.ride.Marks, align.Mark{Kind: "guard"})
	sights, isOtherSame := guarded(x.ride.Sights, align.Sight{Kind: "guard"})
	x.ride = align.Ride{Marks: marks, Sights: sights}
	add(isSame)
	add(isOtherSame)
	x.pairs, isSame = guarded(x.pairs, align.Pair{Sight: 98, Mark: 99})
	add(isSame)
	for i := range x.table {
		x.table[i], isSame = guarded(x.table[i], 99)
		add(isSame)
	}
	keep(&x.run)
	keep(&x.other)
	return func() bool {
		return !slices.ContainsFunc(areSame, func(isSame func() bool) bool { return !isSame() })
	}
}

// spoil writes over all elements of the lists of a value, and of what is behind them within their room.
func spoil(v reflect.Value) {
	switch v.Kind() {
	case reflect.Slice:
		whole := v.Slice(0, v.Cap())
		for i := range whole.Len() {
			spoil(whole.Index(i))
			whole.Index(i).SetZero()
		}
	case reflect.Struct:
		for i := range v.NumField() {
			spoil(v.Field(i))
		}
	case reflect.Interface:
		spoil(v.Elem())
	}
}

// TestNoMemoryIsShared checks of all functions that the arguments stay, and that results are new memory.
func TestNoMemoryIsShared(t *testing.T) {
	for _, c := range calls() {
		x := shownGiven()
		areSame := x.guard()
		first, again, last := c.f(x), c.f(x), c.f(shownGiven())
		spoil(reflect.ValueOf(first))
		want(t, c.name+" and its arguments", list(areSame()), list(true))
		want(t, c.name+" again", again, last)
		for _, l := range []any{x.ride.Marks, x.ride.Sights, x.pairs, x.table, x.run.Samples, x.run.Holes, x.other.Samples, x.other.Holes} {
			spoil(reflect.ValueOf(l))
		}
		want(t, c.name+" of spoiled arguments", again, last)
	}
	r, _, _ := align.Parse(shownText)
	spoil(reflect.ValueOf(r))
	r, line, e := align.Parse(shownText)
	want(t, "Parse again", list(r, line, e), list(shown(), 0, api.OK))
}

// TestRowsShareNoMemory checks it of the rows of a table.
func TestRowsShareNoMemory(t *testing.T) {
	table, _ := align.Table(shown(), shownCosts())
	for i, row := range table {
		for k := range row {
			row[k] = 100*i + k
		}
		_ = append(row, 5000)
	}
	want(t, "the rows", list(table), list([][]int{{0, 1, 2}, {100, 101, 102}, {200, 201, 202}, {300, 301, 302}}))
}

// oneOf returns any element of a list.
func oneOf[T any](g *rand.Rand, l []T) T { return l[g.IntN(len(l))] }

func anyInt(g *rand.Rand) int {
	return oneOf(g, []int{math.MinInt, math.MinInt + 1, -api.MaxPlace - 1, -api.MaxPlace, -257, -256, -1, 0, 0, 1, 1, 2, 3, 5, 64, 65, 256, 257, 500, 501, 1000, 1001, 4096, 4097, 10000, 10001, api.MaxPlace - 1, api.MaxPlace, api.MaxPlace + 1, api.MaxNumber, math.MaxInt - 1, math.MaxInt})
}

func anySample(g *rand.Rand) float32 {
	return oneOf(g, []float32{0, minusZero, 1, -1, 0.0625, 1024, -1024, 1024.0625, 0.03125, nan, infinite, -infinite, math.MaxFloat32, math.SmallestNonzeroFloat32})
}

func anyRide(g *rand.Rand) align.Ride {
	switch g.IntN(5) {
	case 0:
		return oneOf(g, badRides()).x
	case 1:
		var r align.Ride
		for range g.IntN(4) {
			r.Marks = append(r.Marks, align.Mark{Kind: oneOf(g, []string{"a", "b", "", "9"}), Place: anyInt(g)})
			r.Sights = append(r.Sights, align.Sight{Kind: oneOf(g, []string{"a", "b", "", "9"}), Count: anyInt(g)})
		}
		return r
	case 2:
		return many(oneOf(g, []int{0, 1, 8, 65}))
	}
	return someRide(g, 6, 2, 40)
}

func anyPairs(g *rand.Rand, r align.Ride) []align.Pair {
	switch g.IntN(4) {
	case 0:
		return oneOf(g, badPairs()).x
	case 1:
		l := make([]align.Pair, g.IntN(4))
		for i := range l {
			l[i] = align.Pair{Sight: anyInt(g), Mark: anyInt(g)}
		}
		return l
	}
	return somePairs(g, r)
}

func anyTable(g *rand.Rand, r align.Ride, c align.Costs) [][]int {
	switch g.IntN(3) {
	case 0:
		return oneOf(g, badTables()).x
	case 1:
		l := make([][]int, len(r.Sights))
		for i := range l {
			l[i] = constant(anyInt(g), len(r.Marks))
		}
		return l
	}
	table, _ := align.Table(r, c)
	return changed(g, table, 1, 3)
}

func anyRun(g *rand.Rand) sample.Run {
	switch g.IntN(4) {
	case 0:
		return oneOf(g, badRuns()).x
	case 1:
		return sample.Run{Name: oneOf(g, []string{"a", ""}), First: anyInt(g), Samples: constant(anySample(g), g.IntN(3)), Holes: constant(span(anyInt(g), anyInt(g)), g.IntN(2))}
	}
	return someRun(g, 20, 9, 5)
}

func anyText(g *rand.Rand) string {
	s := oneOf(g, []string{"", shownText, "mark a 1\nmark ", "sight "})
	for range g.IntN(8) {
		s += oneOf(g, []string{"mark", "sight", "a", "sight b 1\n", "mark a 7\n", "0", "1", "-1", "01", "9999999999", "", " ", "\n", "\n", "\xff", "\x00", "é"})
		s += oneOf(g, []string{"", " "})
	}
	return s
}

// anyGiven returns arguments of any form, of which some fit together.
func anyGiven(g *rand.Rand) given {
	x := shownGiven()
	x.ride = anyRide(g)
	if x.costs = someCosts(g, 30); g.IntN(6) == 0 {
		x.costs = costs(anyInt(g), anyInt(g), anyInt(g))
	}
	x.pairs, x.table = anyPairs(g, x.ride), anyTable(g, x.ride, x.costs)
	if x.slip = slip(g.IntN(501), g.IntN(20)); g.IntN(6) == 0 {
		x.slip = slip(anyInt(g), anyInt(g))
	}
	x.run, x.other, x.text = anyRun(g), anyRun(g), anyText(g)
	for _, n := range []*int{&x.count, &x.place, &x.turn, &x.shift, &x.most, &x.least, &x.by} {
		if *n = g.IntN(6); g.IntN(4) == 0 {
			*n = anyInt(g)
		}
	}
	if g.IntN(3) == 0 {
		x.other, x.least = x.run, 1
	}
	if x.limit = anySample(g); g.IntN(2) == 0 {
		x.limit = 0.125
	}
	return x
}

// results returns the results of all functions for these arguments.
func (x given) results() []any {
	results := list(align.CheckRide(x.ride), align.CheckCosts(x.costs))
	for _, c := range calls() {
		results = append(results, c.f(x)...)
	}
	r, line, e := align.Parse(x.text)
	return append(results, r, line, e)
}

// alike is same for arguments, in which NaN is like NaN, and 0 is not -0.
func alike(a, b reflect.Value) bool {
	return areEqual(a, b, func(x, y float32) bool { return math.Float32bits(x) == math.Float32bits(y) })
}

// TestAnyArguments checks that no function panics or does not terminate, that each returns the same results again, and that none changes its arguments.
func TestAnyArguments(t *testing.T) {
	for seed := range uint64(3000) {
		x := anyGiven(source(seed))
		want(t, "results again", list(seed, x.results()), list(seed, x.results()))
		if untouched := anyGiven(source(seed)); !alike(reflect.ValueOf(x), reflect.ValueOf(untouched)) {
			t.Errorf("arguments %v: got %v, want %v", seed, x, untouched)
		}
	}
}

// TestZeroBesideErrors checks that beside an error every other result is its zero value, and that all results are well-formed otherwise.
func TestZeroBesideErrors(t *testing.T) {
	g := source(50)
	right := map[string]int{}
	for range 4000 {
		x := anyGiven(g)
		for _, c := range calls() {
			results := c.f(x)
			if e := results[len(results)-1].(api.Errno); e != api.OK {
				checkError(t, c.name, results, e)
				continue
			}
			right[c.name]++
			checkForm(t, c.name, x, results)
		}
		r, line, e := align.Parse(x.text)
		switch {
		case e == api.OK:
			right["Parse"]++
			want(t, "Parse", list(line, align.CheckRide(r)), list(0, api.OK))
		default:
			want(t, "Parse beside an error", list(r), list(align.Ride{}))
		}
	}
	for _, c := range calls() {
		if right[c.name] < 150 {
			t.Errorf("too few results of %v: %v", c.name, right[c.name])
		}
	}
	if right["Parse"] < 150 {
		t.Errorf("too few texts are parsed: %v", right["Parse"])
	}
}

// checkForm checks that results without an error are well-formed.
func checkForm(t *testing.T, name string, x given, results []any) {
	t.Helper()
	turned, _ := align.Turned(x.ride, api.MaxPlace, api.MaxPlace)
	for _, result := range results {
		e := api.OK
		switch y := result.(type) {
		case []align.Pair:
			ride := x.ride
			if name == "TurnedPairs" {
				ride = turned
			}
			e = align.CheckPairs(ride, y)
		case align.Ride:
			e = align.CheckRide(y)
		case sample.Run:
			e = sample.CheckRun(y)
		case api.Ratio:
			e = sample.CheckRatio(y)
		case [][]int:
			_, e = align.CheckTable(x.ride, x.costs, y)
		}
		want(t, name+" is well-formed", list(result, e), list(result, api.OK))
	}
}
