package fault_test

import (
	"math"
	"math/rand/v2"
	"reflect"
	"slices"
	"strings"
	"testing"

	"versine/api"
	"versine/fault"
	"versine/sample"
)

var (
	nan       = float32(math.NaN())
	infinite  = float32(math.Inf(1))
	minusZero = float32(math.Copysign(0, -1))
)

// want reports results that differ from the expected ones.
func want(t *testing.T, what string, got, wanted []any) {
	t.Helper()
	if !same(reflect.ValueOf(got), reflect.ValueOf(wanted)) {
		t.Errorf("%s: got %v, want %v", what, got, wanted)
	}
}

// same is reflect.DeepEqual, except that nil and empty lists are equal, and 0 and -0.
func same(a, b reflect.Value) bool {
	return areEqual(a, b, func(x, y float32) bool { return x == y })
}

// areEqual compares values, and their floats by a function. Nil and empty lists are equal.
func areEqual(a, b reflect.Value, floats func(x, y float32) bool) bool {
	if !a.IsValid() || !b.IsValid() {
		return a.IsValid() == b.IsValid()
	}
	if a.Type() != b.Type() {
		return false
	}
	switch a.Kind() {
	case reflect.Interface:
		return areEqual(a.Elem(), b.Elem(), floats)
	case reflect.Slice, reflect.Array:
		if a.Len() != b.Len() {
			return false
		}
		for i := range a.Len() {
			if !areEqual(a.Index(i), b.Index(i), floats) {
				return false
			}
		}
		return true
	case reflect.Struct:
		for i := range a.NumField() {
			if !areEqual(a.Field(i), b.Field(i), floats) {
				return false
			}
		}
		return true
	case reflect.Float32:
		return floats(float32(a.Float()), float32(b.Float()))
	}
	return a.Equal(b)
}

// list is results, to be compared.
func list(l ...any) []any { return l }

func ints(l ...int) []int { return l }

func span(from, to int) api.Span { return api.Span{From: from, To: to} }

// rows returns the limits with a band, and rows with these speeds and values.
func rows(band int, l ...int) fault.Limits {
	limits := fault.Limits{Band: band}
	for i := 0; i < len(l); i += 2 {
		limits.Rows = append(limits.Rows, fault.Row{Speed: l[i], Most: l[i+1]})
	}
	return limits
}

// shownLimits and shownRun return L and R of the chapter's examples, laterRun the later run of example 5.
func shownLimits() fault.Limits { return rows(8, 160, 64, 120, 96, 80, 160) }

func shownRun() sample.Run { return run(100, 50, 60, 70, 80, none, -100, 100, 20) }

func laterRun() sample.Run { return run(100, 50, 90, 70, 80, 5, -100, 130, 20) }

// manyRows returns limits with n rows.
func manyRows(n int) fault.Limits {
	l := fault.Limits{Band: 3}
	for i := range n {
		l.Rows = append(l.Rows, fault.Row{Speed: 400 - 10*i, Most: 20 + 5*i})
	}
	return l
}

// run returns a run with integers; none stands for the integer of a hole.
const none = math.MinInt

func run(first int, integers ...int) sample.Run {
	r := sample.Run{Name: "r", First: first, Samples: make([]float32, len(integers))}
	for i, n := range integers {
		switch k := len(r.Holes) - 1; {
		case n != none:
			r.Samples[i] = float32(n) / 16
		case k >= 0 && r.Holes[k].To == i:
			r.Holes[k].To++
		default:
			r.Holes = append(r.Holes, span(i, i+1))
		}
	}
	return r
}

// found returns a fault, grown a growth, measured a measurement.
func found(from, to, value int, sure bool) fault.Fault {
	return fault.Fault{Span: span(from, to), Value: value, Sure: sure}
}

func grown(from, to, least int) fault.Growth {
	return fault.Growth{Span: span(from, to), Least: least}
}

func measured(day, value, band int) fault.Measured {
	return fault.Measured{Day: day, Value: value, Band: band}
}

// shownFaults returns the faults of example 3.
func shownFaults() []fault.Fault {
	return []fault.Fault{found(101, 104, 80, true), found(105, 107, -100, true)}
}

// manyFaults returns n faults in order, with one place between each two of them.
func manyFaults(n int) []fault.Fault {
	var l []fault.Fault
	for i := range n {
		l = append(l, found(2*i, 2*i+1, i, false))
	}
	return l
}

// restriction returns a restriction, imposes and withdraws return messages, office an office.
func restriction(name string, from, to, speed int) fault.Restriction {
	return fault.Restriction{Name: name, Span: span(from, to), Speed: speed}
}

func imposes(number int, r fault.Restriction) fault.Message {
	return fault.Message{Number: number, Restriction: r}
}

func withdraws(number int, name string) fault.Message {
	return fault.Message{Number: number, Withdraw: true, Restriction: fault.Restriction{Name: name}}
}

func office(acked int, l ...fault.Message) fault.Office {
	return fault.Office{Messages: l, Acked: acked}
}

func post(heard int, l ...fault.Restriction) fault.Post { return fault.Post{Heard: heard, Force: l} }

// a and b return the restrictions of example 7, shownOffice its office, with a number up to which it is acknowledged.
func a() fault.Restriction { return restriction("a", 10, 20, 80) }

func b() fault.Restriction { return restriction("b", 15, 30, 40) }

func shownOffice(acked int) fault.Office {
	return office(acked, imposes(1, a()), imposes(2, b()), withdraws(3, "a"))
}

// manyRestrictions returns n restrictions with different names.
func manyRestrictions(n int) []fault.Restriction {
	var l []fault.Restriction
	for i := range n {
		l = append(l, restriction("r"+string(rune('0'+i/10))+string(rune('0'+i%10)), i, i+10, 5*i))
	}
	return l
}

// fullOffice returns an office with n messages that impose restrictions.
func fullOffice(n int) fault.Office {
	var o fault.Office
	for i, r := range manyRestrictions(n) {
		o.Messages = append(o.Messages, imposes(i+1, r))
	}
	return o
}

// swaying returns an office with n messages, which impose and withdraw one restriction in turn.
func swaying(n int) fault.Office {
	var o fault.Office
	for i := range n {
		m := imposes(i+1, a())
		if i%2 == 1 {
			m = withdraws(i+1, "a")
		}
		o.Messages = append(o.Messages, m)
	}
	return o
}

// constant returns n times the same element.
func constant[T any](x T, n int) []T { return slices.Repeat([]T{x}, n) }

// source returns numbers that are the same in each test run.
func source(seed uint64) *rand.Rand { return rand.New(rand.NewPCG(seed, 7)) }

// between returns a number from least to most.
func between(g *rand.Rand, least, most int) int { return least + g.IntN(most-least+1) }

// ascending returns n different numbers from least to most, ascending.
func ascending(g *rand.Rand, n, least, most int) []int {
	l := g.Perm(most - least + 1)[:n]
	slices.Sort(l)
	for i := range l {
		l[i] += least
	}
	return l
}

// someLimits returns limits with a band up to one number, and values up to another one.
func someLimits(g *rand.Rand, band, most int) fault.Limits {
	l := fault.Limits{Band: g.IntN(band + 1)}
	n := between(g, 1, min(12, most+1))
	speeds, values := ascending(g, n, 1, 500), ascending(g, n, 0, most)
	for i := range n {
		l.Rows = append(l.Rows, fault.Row{Speed: speeds[n-1-i], Most: values[i]})
	}
	return l
}

// someRun returns a run of up to n samples with holes, whose integers are at most a bound.
func someRun(g *rand.Rand, n, bound int) sample.Run {
	integers := make([]int, g.IntN(n+1))
	for i := range integers {
		if integers[i] = between(g, -bound, bound); g.IntN(8) == 0 {
			integers[i] = none
		}
	}
	return run(g.IntN(1000), integers...)
}

// likeRun returns a run of the shape of another one, with integers that mostly differ by at most a number.
func likeRun(g *rand.Rand, r sample.Run, by, bound int) sample.Run {
	integers := make([]int, len(r.Samples))
	for i := range integers {
		n := int(16*r.Samples[i]) + between(g, -by, by)
		if integers[i] = max(min(n, bound), -bound); g.IntN(8) == 0 {
			integers[i] = none
		}
	}
	return run(r.First, integers...)
}

// someFaults returns up to n faults in order, some of which touch.
func someFaults(g *rand.Rand, n int) []fault.Fault {
	var l []fault.Fault
	at := g.IntN(9)
	for range g.IntN(n + 1) {
		at += max(g.IntN(12)-3, 0)
		to := at + between(g, 1, 4)
		l = append(l, found(at, to, between(g, -9, 9), g.IntN(3) == 0))
		at = to
	}
	return l
}

// someOffice returns an office with up to n messages about some names.
func someOffice(g *rand.Rand, n, names int) fault.Office {
	var o fault.Office
	isInForce := map[string]bool{}
	for i := range g.IntN(n + 1) {
		name := "n" + string(rune('a'+g.IntN(names)))
		if isInForce[name] {
			o.Messages = append(o.Messages, withdraws(i+1, name))
		} else {
			from := g.IntN(50)
			o.Messages = append(o.Messages, imposes(i+1, restriction(name, from, from+between(g, 1, 20), g.IntN(501))))
		}
		isInForce[name] = !isInForce[name]
	}
	o.Acked = g.IntN(len(o.Messages) + 1)
	return o
}

// forceAfter returns what is in force after n messages by its definition: what was imposed, and not withdrawn since.
func forceAfter(messages []fault.Message, n int) []fault.Restriction {
	var l []fault.Restriction
	for i, m := range messages[:n] {
		isWithdrawn := slices.ContainsFunc(messages[i:n], func(x fault.Message) bool {
			return x.Withdraw && x.Restriction.Name == m.Restriction.Name
		})
		if !m.Withdraw && !isWithdrawn {
			l = append(l, m.Restriction)
		}
	}
	return l
}

// postAfter returns the post that has heard n messages of an office.
func postAfter(o fault.Office, n int) fault.Post { return post(n, forceAfter(o.Messages, n)...) }

// someRounds returns up to n rounds in which messages up to a number are lost more or less often.
func someRounds(g *rand.Rand, n, most int) []fault.Round {
	l := make([]fault.Round, g.IntN(n+1))
	often := g.IntN(6)
	for i := range l {
		l[i].Deaf = g.IntN(6) < often
		for number := 1; number <= most; number++ {
			if g.IntN(6) < often {
				l[i].Lost = append(l[i].Lost, number)
			}
		}
		g.Shuffle(len(l[i].Lost), func(a, b int) { l[i].Lost[a], l[i].Lost[b] = l[i].Lost[b], l[i].Lost[a] })
	}
	return l
}

// flaw makes a value have an error.
type flaw[T any] struct {
	e     api.Errno
	spoil func(x *T)
}

// bad is a value with an error.
type bad[T any] struct {
	x T
	e api.Errno
}

// spoiled returns for each flaw a value that has it and all those behind it in the list, and one
// that has it alone. A flaw may write over those behind it.
func spoiled[T any](good func() T, flaws []flaw[T]) []bad[T] {
	var l []bad[T]
	for i, f := range flaws {
		all, one := good(), good()
		for k := len(flaws) - 1; k >= i; k-- {
			flaws[k].spoil(&all)
		}
		f.spoil(&one)
		l = append(l, bad[T]{all, f.e}, bad[T]{one, f.e})
	}
	return l
}

// badNumbers returns numbers that are not from least to most.
func badNumbers(least, most int) []bad[int] {
	var l []bad[int]
	for _, n := range []int{math.MinInt, least - 1, most + 1, math.MaxInt} {
		l = append(l, bad[int]{n, api.ErrRange})
	}
	return l
}

// badBands returns two bands with each error.
func badBands() []bad[[2]int] {
	var l []bad[[2]int]
	for _, n := range []int{math.MinInt, -1, 1001, math.MaxInt} {
		for _, bands := range [][2]int{{n, 0}, {1000, n}, {n, n}} {
			l = append(l, bad[[2]int]{bands, api.ErrRange})
		}
	}
	return l
}

// badNames returns strings that are no names.
func badNames() []bad[string] {
	var l []bad[string]
	for _, s := range []string{"", "9", "_a", "a b", "é", "a\n", strings.Repeat("a", 25)} {
		l = append(l, bad[string]{s, api.ErrName})
	}
	return l
}

// badLimits returns limits with each error, alone, and where those that are listed later are there, too.
func badLimits() []bad[fault.Limits] {
	type l = fault.Limits
	return append(spoiled(shownLimits, []flaw[l]{
		{api.ErrRange, func(x *l) { x.Band = -1 }},
		{api.ErrRange, func(x *l) { x.Band = 1001 }},
		{api.ErrRange, func(x *l) { x.Band = math.MinInt }},
		{api.ErrEmpty, func(x *l) { x.Rows = nil }},
		{api.ErrMany, func(x *l) { x.Rows = make([]fault.Row, 13) }},
		{api.ErrRange, func(x *l) { x.Rows[0] = fault.Row{Speed: 0, Most: 16385} }},
		{api.ErrRange, func(x *l) { x.Rows[0].Speed = 501 }},
		{api.ErrRange, func(x *l) { x.Rows[0] = fault.Row{Speed: 160, Most: -1} }},
		{api.ErrRange, func(x *l) { x.Rows[0] = fault.Row{Speed: 160, Most: 16385} }},
		{api.ErrRange, func(x *l) { x.Rows[1] = fault.Row{Speed: -1, Most: 64} }},
		{api.ErrRange, func(x *l) { x.Rows[1] = fault.Row{Speed: 501, Most: 96} }},
		{api.ErrRange, func(x *l) { x.Rows[1] = fault.Row{Speed: 160, Most: math.MaxInt} }},
		{api.ErrRange, func(x *l) { x.Rows[1] = fault.Row{Speed: 120, Most: math.MinInt} }},
		{api.ErrOrder, func(x *l) { x.Rows[1] = fault.Row{Speed: 160, Most: 96} }},
		{api.ErrOrder, func(x *l) { x.Rows[1] = fault.Row{Speed: 161, Most: 96} }},
		{api.ErrOrder, func(x *l) { x.Rows[1] = fault.Row{Speed: 120, Most: 64} }},
		{api.ErrOrder, func(x *l) { x.Rows[1] = fault.Row{Speed: 120, Most: 63} }},
		{api.ErrRange, func(x *l) { x.Rows[2] = fault.Row{Speed: math.MinInt, Most: 160} }},
		{api.ErrRange, func(x *l) { x.Rows[2] = fault.Row{Speed: 80, Most: -5} }},
		{api.ErrOrder, func(x *l) { x.Rows[2] = fault.Row{Speed: 120, Most: 160} }},
		{api.ErrOrder, func(x *l) { x.Rows[2] = fault.Row{Speed: 80, Most: 96} }},
	}), bad[l]{manyRows(13), api.ErrMany}, bad[l]{l{Band: math.MaxInt}, api.ErrRange})
}

// badRuns returns runs of the shape of R with each error.
func badRuns() []bad[sample.Run] {
	type r = sample.Run
	return append(spoiled(shownRun, []flaw[r]{
		{api.ErrName, func(x *r) { x.Name = "" }},
		{api.ErrRange, func(x *r) { x.First = -1 }},
		{api.ErrMany, func(x *r) { x.Samples = constant(nan, 4097) }},
		{api.ErrForm, func(x *r) { x.Samples[0] = nan }},
		{api.ErrRange, func(x *r) { x.Samples[0] = 0.03125 }},
		{api.ErrForm, func(x *r) { x.Samples[2] = infinite }},
		{api.ErrRange, func(x *r) { x.Samples[2] = -1025 }},
		{api.ErrLarge, func(x *r) { x.First = api.MaxPlace - 7 }},
		{api.ErrSpan, func(x *r) { x.Holes = []api.Span{span(4, 4)} }},
		{api.ErrOrder, func(x *r) { x.Holes = []api.Span{span(4, 5), span(5, 6)} }},
		{api.ErrForm, func(x *r) { x.Holes = []api.Span{span(0, 1)} }},
	}), bad[r]{r{}, api.ErrName})
}

// badFaults returns faults with each error.
func badFaults() []bad[[]fault.Fault] {
	type l = []fault.Fault
	return append(spoiled(shownFaults, []flaw[l]{
		{api.ErrMany, func(x *l) { *x = make(l, 257) }},
		{api.ErrSpan, func(x *l) { (*x)[0] = found(104, 104, 16385, true) }},
		{api.ErrSpan, func(x *l) { (*x)[0].Span = span(104, 103) }},
		{api.ErrSpan, func(x *l) { (*x)[0].Span = span(-1, 104) }},
		{api.ErrSpan, func(x *l) { (*x)[0].Span = span(math.MaxInt, math.MinInt) }},
		{api.ErrSpan, func(x *l) { (*x)[0].Span = span(math.MinInt, math.MaxInt) }},
		{api.ErrRange, func(x *l) { (*x)[0] = found(101, 104, 16385, true) }},
		{api.ErrRange, func(x *l) { (*x)[0].Value = -16385 }},
		{api.ErrRange, func(x *l) { (*x)[0].Value = math.MinInt }},
		{api.ErrSpan, func(x *l) { (*x)[1] = found(100, api.MaxPlace+1, 16385, false) }},
		{api.ErrSpan, func(x *l) { (*x)[1].Span = span(api.MaxPlace, api.MaxPlace) }},
		{api.ErrSpan, func(x *l) { (*x)[1].Span = span(-5, -4) }},
		{api.ErrOrder, func(x *l) { (*x)[1] = found(103, 107, 16385, false) }},
		{api.ErrOrder, func(x *l) { (*x)[1].Span = span(0, 1) }},
		{api.ErrRange, func(x *l) { (*x)[1].Value = math.MaxInt }},
	}), bad[l]{manyFaults(257), api.ErrMany})
}

// badMeasured returns measurements with each error.
func badMeasured() []bad[fault.Measured] {
	type m = fault.Measured
	return spoiled(func() m { return measured(150, 40, 4) }, []flaw[m]{
		{api.ErrRange, func(x *m) { x.Day = -1 }},
		{api.ErrRange, func(x *m) { x.Day = 100001 }},
		{api.ErrRange, func(x *m) { x.Day = math.MaxInt }},
		{api.ErrRange, func(x *m) { x.Value = -1 }},
		{api.ErrRange, func(x *m) { x.Value = 16385 }},
		{api.ErrRange, func(x *m) { x.Value = math.MinInt }},
		{api.ErrRange, func(x *m) { x.Band = -1 }},
		{api.ErrRange, func(x *m) { x.Band = 1001 }},
		{api.ErrRange, func(x *m) { x.Band = math.MaxInt }},
	})
}

// badRestrictions returns restrictions with each error.
func badRestrictions() []bad[fault.Restriction] {
	type r = fault.Restriction
	return spoiled(b, []flaw[r]{
		{api.ErrName, func(x *r) { x.Name = "" }},
		{api.ErrName, func(x *r) { x.Name = "9b" }},
		{api.ErrName, func(x *r) { x.Name = strings.Repeat("b", 25) }},
		{api.ErrSpan, func(x *r) { x.Span = span(15, 15) }},
		{api.ErrSpan, func(x *r) { x.Span = span(15, 14) }},
		{api.ErrSpan, func(x *r) { x.Span = span(-1, 30) }},
		{api.ErrSpan, func(x *r) { x.Span = span(15, api.MaxPlace+1) }},
		{api.ErrSpan, func(x *r) { x.Span = span(math.MinInt, math.MaxInt) }},
		{api.ErrSpan, func(x *r) { x.Span = span(math.MaxInt, math.MinInt) }},
		{api.ErrSpan, func(x *r) { x.Span = api.Span{} }},
		{api.ErrRange, func(x *r) { x.Speed = -1 }},
		{api.ErrRange, func(x *r) { x.Speed = 501 }},
		{api.ErrRange, func(x *r) { x.Speed = math.MinInt }},
	})
}

// badMessages returns messages with each error.
func badMessages() []bad[fault.Message] {
	type m = fault.Message
	l := spoiled(func() m { return withdraws(3, "a") }, []flaw[m]{
		{api.ErrRange, func(x *m) { x.Number = 0 }},
		{api.ErrRange, func(x *m) { x.Number = 65 }},
		{api.ErrRange, func(x *m) { x.Number = math.MinInt }},
		{api.ErrRange, func(x *m) { x.Number = math.MaxInt }},
		{api.ErrName, func(x *m) { x.Restriction.Name = "" }},
		{api.ErrName, func(x *m) { x.Restriction.Name = "a-" }},
		{api.ErrForm, func(x *m) { x.Restriction.Span.From = 1 }},
		{api.ErrForm, func(x *m) { x.Restriction.Span.From = -1 }},
		{api.ErrForm, func(x *m) { x.Restriction.Span.To = 1 }},
		{api.ErrForm, func(x *m) { x.Restriction.Span = span(math.MinInt, math.MaxInt) }},
		{api.ErrForm, func(x *m) { x.Restriction.Span = span(10, 20) }},
		{api.ErrForm, func(x *m) { x.Restriction.Speed = 1 }},
		{api.ErrForm, func(x *m) { x.Restriction.Speed = -1 }},
	})
	for _, r := range badRestrictions() {
		l = append(l, bad[m]{imposes(64, r.x), r.e}, bad[m]{imposes(0, r.x), api.ErrRange}, bad[m]{imposes(65, r.x), api.ErrRange})
	}
	return l
}

// badOffices returns offices with each error.
func badOffices() []bad[fault.Office] {
	type o = fault.Office
	l := spoiled(func() o { return shownOffice(1) }, []flaw[o]{
		{api.ErrMany, func(x *o) { x.Messages = make([]fault.Message, 65) }},
		{api.ErrRange, func(x *o) { x.Messages[0].Number = 0 }},
		{api.ErrSpan, func(x *o) { x.Messages[0] = imposes(2, restriction("a", 10, 10, 80)) }},
		{api.ErrOrder, func(x *o) { x.Messages[0] = imposes(2, a()) }},
		{api.ErrOrder, func(x *o) { x.Messages[0] = withdraws(2, "a") }},
		{api.ErrUnknown, func(x *o) { x.Messages[0] = withdraws(1, "a") }},
		{api.ErrRange, func(x *o) { x.Messages[1] = imposes(65, a()) }},
		{api.ErrName, func(x *o) { x.Messages[1] = imposes(1, restriction("", 15, 30, 40)) }},
		{api.ErrRange, func(x *o) { x.Messages[1] = imposes(3, restriction("a", 15, 30, 501)) }},
		{api.ErrOrder, func(x *o) { x.Messages[1] = imposes(1, a()) }},
		{api.ErrOrder, func(x *o) { x.Messages[1] = imposes(3, a()) }},
		{api.ErrTwice, func(x *o) { x.Messages[1] = imposes(2, a()) }},
		{api.ErrTwice, func(x *o) { x.Messages[1] = imposes(2, restriction("a", 40, 50, 0)) }},
		{api.ErrName, func(x *o) { x.Messages[2] = withdraws(4, "") }},
		{api.ErrForm, func(x *o) { x.Messages[2].Restriction, x.Messages[2].Number = a(), 4 }},
		{api.ErrOrder, func(x *o) { x.Messages[2] = withdraws(4, "c") }},
		{api.ErrUnknown, func(x *o) { x.Messages[2] = withdraws(3, "c") }},
		{api.ErrTwice, func(x *o) { x.Messages = append(x.Messages[:3:3], imposes(4, b())) }},
		{api.ErrUnknown, func(x *o) { x.Messages = append(x.Messages[:3:3], withdraws(4, "a")) }},
		{api.ErrRange, func(x *o) { x.Acked = -1 }},
		{api.ErrRange, func(x *o) { x.Acked = 5 }},
		{api.ErrRange, func(x *o) { x.Acked = math.MinInt }},
		{api.ErrRange, func(x *o) { x.Acked = math.MaxInt }},
	})
	return append(l, bad[o]{fullOffice(65), api.ErrMany}, bad[o]{shownOffice(4), api.ErrRange}, bad[o]{office(1), api.ErrRange})
}

// badPosts returns posts with each error.
func badPosts() []bad[fault.Post] {
	type p = fault.Post
	return append(spoiled(func() p { return post(2, a(), b()) }, []flaw[p]{
		{api.ErrRange, func(x *p) { x.Heard = -1 }},
		{api.ErrRange, func(x *p) { x.Heard = 65 }},
		{api.ErrRange, func(x *p) { x.Heard = math.MinInt }},
		{api.ErrRange, func(x *p) { x.Heard = math.MaxInt }},
		{api.ErrMany, func(x *p) { x.Force = make([]fault.Restriction, 65) }},
		{api.ErrName, func(x *p) { x.Force[0].Name = "a b" }},
		{api.ErrSpan, func(x *p) { x.Force[0] = restriction("b", 10, 10, 501) }},
		{api.ErrRange, func(x *p) { x.Force[0] = restriction("b", 10, 20, 501) }},
		{api.ErrName, func(x *p) { x.Force[1].Name = "" }},
		{api.ErrSpan, func(x *p) { x.Force[1] = restriction("a", -1, 10, -1) }},
		{api.ErrRange, func(x *p) { x.Force[1] = restriction("a", 15, 30, -1) }},
		{api.ErrTwice, func(x *p) { x.Force[1].Name, x.Force[0].Name = "a", "a" }},
		{api.ErrTwice, func(x *p) { x.Force = append(x.Force[:2:2], restriction(x.Force[0].Name, 50, 60, 5)) }},
	}), bad[p]{post(0, manyRestrictions(65)...), api.ErrMany}, bad[p]{post(2, append(manyRestrictions(63), restriction("r00", 0, 1, 2))...), api.ErrTwice})
}

// badRounds returns rounds with each error.
func badRounds() []bad[[]fault.Round] {
	type l = []fault.Round
	return append(spoiled(shownRounds, []flaw[l]{
		{api.ErrMany, func(x *l) { *x = constant(fault.Round{Lost: ints(0)}, 65) }},
		{api.ErrRange, func(x *l) { (*x)[0].Lost = ints(0, 2) }},
		{api.ErrRange, func(x *l) { (*x)[0].Lost = ints(65) }},
		{api.ErrRange, func(x *l) { (*x)[0].Lost = ints(2, 2, 64, math.MinInt) }},
		{api.ErrRange, func(x *l) { (*x)[1].Lost = ints(math.MaxInt) }},
		{api.ErrRange, func(x *l) { (*x)[1].Lost = ints(1, 64, -1) }},
	}), bad[l]{make(l, 65), api.ErrMany})
}

// shownRounds returns rounds of which the first one loses a message, and the second one the answer.
func shownRounds() []fault.Round { return []fault.Round{{Lost: ints(2)}, {Deaf: true}} }
