package plan_test

import (
	"iter"
	"math"
	"math/big"
	"math/rand/v2"
	"reflect"
	"slices"
	"testing"

	"versine/api"
	"versine/plan"
)

// want reports results that differ from the expected ones.
func want(t *testing.T, what string, got, wanted []any) {
	t.Helper()
	if !same(reflect.ValueOf(got), reflect.ValueOf(wanted)) {
		t.Errorf("%s: got %v, want %v", what, got, wanted)
	}
}

// same is reflect.DeepEqual, except that nil and empty lists are equal.
func same(a, b reflect.Value) bool {
	if !a.IsValid() || !b.IsValid() {
		return a.IsValid() == b.IsValid()
	}
	if a.Type() != b.Type() {
		return false
	}
	switch a.Kind() {
	case reflect.Interface:
		return same(a.Elem(), b.Elem())
	case reflect.Slice, reflect.Array:
		if a.Len() != b.Len() {
			return false
		}
		for i := range a.Len() {
			if !same(a.Index(i), b.Index(i)) {
				return false
			}
		}
		return true
	case reflect.Struct:
		for i := range a.NumField() {
			if !same(a.Field(i), b.Field(i)) {
				return false
			}
		}
		return true
	}
	return a.Equal(b)
}

// list is results, to be compared.
func list(l ...any) []any { return l }

func ints(l ...int) []int { return l }

func ratio(num, den int) api.Ratio { return api.Ratio{Num: num, Den: den} }

func interval(low, high int) api.Interval { return api.Interval{Low: low, High: high} }

func section(name string, deadline, work, ballast, value int) plan.Section {
	return plan.Section{Name: name, Deadline: deadline, Work: work, Ballast: ballast, Value: value}
}

func shift(day, hours, ballast, rate int) plan.Shift {
	return plan.Shift{Day: day, Hours: hours, Ballast: ballast, Rate: rate}
}

func told(value, cost int) plan.Told { return plan.Told{Value: value, Cost: cost} }

func rules(most, ramp int) plan.Rules { return plan.Rules{Most: most, Ramp: ramp} }

func rail(length, heat, extension int) plan.Rail {
	return plan.Rail{Length: length, Heat: heat, Extension: extension}
}

func job(name, kind string, after ...string) plan.Job {
	return plan.Job{Name: name, Kind: kind, After: after}
}

// shown returns O of the chapter's examples.
func shown() plan.Office {
	return plan.Office{
		Sections: []plan.Section{section("a", 10, 4, 5, 30), section("b", 10, 3, 5, 20), section("c", 4, 5, 0, 25)},
		Shifts:   []plan.Shift{shift(3, 5, 6, 2), shift(8, 6, 8, 1)},
	}
}

// site returns the jobs of example 6, shownHeats the temperatures, shownBand a band with its High.
func site() []plan.Job {
	return []plan.Job{job("t", "tamp"), job("w", "weld", "t"), job("g", "grind", "w")}
}

func shownHeats() []int { return ints(200, 300, 240, 210) }

func shownBand() api.Interval { return interval(240, 260) }

// kinds are all kinds of jobs.
func kinds() []string { return []string{"tamp", "grind", "weld"} }

// nameOf returns the name with a number of two digits.
func nameOf(i int) string { return "n" + string(rune('0'+i/10)) + string(rune('0'+i%10)) }

// manySections returns n sections, manyShifts n shifts, manyJobs n jobs, manyRails n rails.
func manySections(n int) []plan.Section {
	var l []plan.Section
	for i := range n {
		l = append(l, section(nameOf(i), 10*i, i+1, 2*i, 3*i))
	}
	return l
}

func manyShifts(n int) []plan.Shift {
	var l []plan.Shift
	for i := range n {
		l = append(l, shift(10*i, i, 2*i, 3*i))
	}
	return l
}

func manyJobs(n int) []plan.Job {
	var l []plan.Job
	for i := range n {
		l = append(l, job(nameOf(i), kinds()[i%3]))
	}
	return l
}

func manyRails(n int) []plan.Rail {
	var l []plan.Rail
	for i := range n {
		l = append(l, rail(100+i, 10*i, i))
	}
	return l
}

// constant returns n times the same element.
func constant[T any](x T, n int) []T { return slices.Repeat([]T{x}, n) }

// source returns numbers that are the same in each test run.
func source(seed uint64) *rand.Rand { return rand.New(rand.NewPCG(seed, 9)) }

// between returns a number from least to most.
func between(g *rand.Rand, least, most int) int { return least + g.IntN(most-least+1) }

// numbers returns n numbers from least to most.
func numbers(g *rand.Rand, n, least, most int) []int {
	l := make([]int, n)
	for i := range l {
		l[i] = between(g, least, most)
	}
	return l
}

// oneOf returns any element of a list.
func oneOf[T any](g *rand.Rand, l []T) T { return l[g.IntN(len(l))] }

// lists visits all lists of n numbers from least to most, in their order. Each one is written over by the next one.
func lists(n, least, most int) iter.Seq[[]int] {
	return func(yield func([]int) bool) {
		l := constant(least, n)
		for yield(l) {
			i := n - 1
			for i >= 0 && l[i] == most {
				l[i] = least
				i--
			}
			if i < 0 {
				return
			}
			l[i]++
		}
	}
}

// someSection returns a section, someShift a shift, of small numbers, so that many are equal.
func someSection(g *rand.Rand, i, days int) plan.Section {
	return section(nameOf(i), g.IntN(days), between(g, 1, 6), g.IntN(6), 5*g.IntN(5))
}

func someShift(g *rand.Rand, day int) plan.Shift {
	return shift(day, g.IntN(13), g.IntN(13), g.IntN(3))
}

// someOffice returns an office with up to n sections and up to m shifts.
func someOffice(g *rand.Rand, n, m int) plan.Office {
	var o plan.Office
	days := between(g, 1, 6)
	for i := range g.IntN(n + 1) {
		o.Sections = append(o.Sections, someSection(g, i, days+1))
	}
	all := numbers(g, g.IntN(m+1), 0, days)
	slices.Sort(all)
	for _, day := range all {
		o.Shifts = append(o.Shifts, someShift(g, day))
	}
	return o
}

// somePlan returns a plan for an office, which has no error more often than any one.
func somePlan(g *rand.Rand, o plan.Office) []int {
	l := numbers(g, len(o.Sections), -1, len(o.Shifts)-1)
	for i := range l {
		if g.IntN(3) == 0 {
			l[i] = -1
		}
	}
	return l
}

// course is levels and targets, with the rules of their lifts.
type course struct {
	levels, targets []int
	rules           plan.Rules
}

// someCourse returns a course with up to n columns, and lifts up to a number.
func someCourse(g *rand.Rand, n, most int) course {
	c := course{rules: rules(g.IntN(most+1), between(g, 1, most))}
	deep := between(g, 1, most+4)
	c.levels = numbers(g, between(g, 1, n), -5, 5)
	for _, level := range c.levels {
		c.targets = append(c.targets, level+between(g, -2, deep))
	}
	return c
}

// someLifts returns lifts that the rules permit.
func someLifts(g *rand.Rand, n int, r plan.Rules) []int {
	l := numbers(g, n, 0, r.Most)
	for range 2 { // from both ends
		before := 0
		for i, lift := range l {
			l[i] = min(lift, before+r.Ramp)
			before = l[i]
		}
		slices.Reverse(l)
	}
	return l
}

// someJobs returns up to n jobs, of which none needs itself.
func someJobs(g *rand.Rand, n int) []plan.Job {
	l := make([]plan.Job, g.IntN(n+1))
	often := between(g, 1, 6)
	order := g.Perm(len(l))
	for k, i := range order {
		l[i] = job(nameOf(i), oneOf(g, kinds()))
		for _, before := range order[:k] {
			if g.IntN(often) == 0 {
				l[i].After = append(l[i].After, nameOf(before))
			}
		}
		g.Shuffle(len(l[i].After), func(a, b int) { l[i].After[a], l[i].After[b] = l[i].After[b], l[i].After[a] })
	}
	return l
}

// someHeats returns temperatures of up to n days, of which some are above 50.
func someHeats(g *rand.Rand, n int) []int {
	l := numbers(g, between(g, 1, n), 0, between(g, 50, 100))
	return l
}

// fraction returns a quotient as a ratio without bounds, whole an integer, rat a ratio.
func fraction(num, den int) *big.Rat { return big.NewRat(int64(num), int64(den)) }

func whole(n int) *big.Rat { return big.NewRat(int64(n), 1) }

func rat(x api.Ratio) *big.Rat { return fraction(x.Num, x.Den) }

func plus(l ...*big.Rat) *big.Rat {
	sum := new(big.Rat)
	for _, x := range l {
		sum.Add(sum, x)
	}
	return sum
}

func minus(a, b *big.Rat) *big.Rat { return new(big.Rat).Sub(a, b) }

func times(a, b *big.Rat) *big.Rat { return new(big.Rat).Mul(a, b) }

func by(a, b *big.Rat) *big.Rat { return new(big.Rat).Quo(a, b) }

// down returns a ratio that is not below 0, rounded down.
func down(x *big.Rat) int { return int(new(big.Int).Quo(x.Num(), x.Denom()).Int64()) }

// ratioOf returns a ratio without bounds as one of integers, and whether these are at most MaxNumber.
func ratioOf(x *big.Rat) (api.Ratio, bool) {
	most := big.NewInt(api.MaxNumber)
	if x.Num().CmpAbs(most) > 0 || x.Denom().CmpAbs(most) > 0 {
		return api.Ratio{}, false
	}
	return ratio(int(x.Num().Int64()), int(x.Denom().Int64())), true
}

// flaw makes a value have an error.
type flaw[T any] struct {
	e     api.Errno
	spoil func(x *T)
}

// bad is a value with an error.
type bad[T any] struct {
	x T
	e api.Errno
}

// spoiled returns for each flaw a value that has it and all those behind it in the list, and one
// that has it alone. A flaw may write over those behind it.
func spoiled[T any](good func() T, flaws []flaw[T]) []bad[T] {
	var l []bad[T]
	for i, f := range flaws {
		all, one := good(), good()
		for k := len(flaws) - 1; k >= i; k-- {
			flaws[k].spoil(&all)
		}
		f.spoil(&one)
		l = append(l, bad[T]{all, f.e}, bad[T]{one, f.e})
	}
	return l
}

// beyond returns numbers that are not from least to most.
func beyond(least, most int) []int { return ints(math.MinInt, least-1, most+1, math.MaxInt) }

// outside returns flaws that set a number to one that is not from least to most.
func outside[T any](field func(x *T) *int, least, most int) []flaw[T] {
	var l []flaw[T]
	for _, n := range beyond(least, most) {
		l = append(l, flaw[T]{api.ErrRange, func(x *T) { *field(x) = n }})
	}
	return l
}

// badNumbers returns numbers that are not from least to most.
func badNumbers(least, most int) []bad[int] {
	var l []bad[int]
	for _, n := range beyond(least, most) {
		l = append(l, bad[int]{n, api.ErrRange})
	}
	return l
}
