package plan

import (
	"cmp"
	"iter"
	"slices"

	"versine/api"
	"versine/base"
	"versine/sample"
)

// plans visits all plans of an office without an error.
func (o Office) plans() iter.Seq[draft] {
	return func(yield func(d draft) bool) { o.visit(o.draft(), yield) }
}

// visit visits all plans that begin like a draft, and reports whether to go on.
func (o Office) visit(d draft, yield func(d draft) bool) bool {
	at := len(d.shifts)
	if at == len(o.Sections) {
		return yield(d)
	}
	if !o.visit(o.with(d, none), yield) {
		return false
	}
	for i, s := range o.Shifts {
		next := o.with(d, i)
		if s.isInTime(o.Sections[at]) && next.left[i].check() == api.OK && !o.visit(next, yield) {
			return false
		}
	}
	return true
}

// compare compares plans in the order in which the best one is the first.
func (d draft) compare(other draft) int {
	if d.Told == other.Told {
		return slices.Compare(d.shifts, other.shifts)
	}
	return cmp.Or(cmp.Compare(other.Value, d.Value), cmp.Compare(d.Cost, other.Cost))
}

// best returns the best plan of an office without an error.
func (o Office) best() draft {
	best := draft{shifts: slices.Repeat([]int{none}, len(o.Sections))}
	for d := range o.plans() {
		if d.compare(best) < 0 {
			best = d
		}
	}
	return best
}

// Plan returns the best plan.
func Plan(o Office) ([]int, Told, api.Errno) {
	if e := CheckOffice(o); e != api.OK {
		return nil, Told{}, e
	}
	best := o.best()
	return best.shifts, best.Told, api.OK
}

// checkAmount returns the error of a ratio, then ErrRange if it is below 0.
func checkAmount(x api.Ratio) api.Errno {
	return base.FirstError(sample.CheckRatio(x), base.ErrorIf(x.Num < 0, api.ErrRange))
}

// pieces is how many equal pieces 1 is cut into, so that each price is a number of them: the
// least multiple of all denominators up to MaxParts. The greatest bound has about 1.4e17 pieces.
const pieces = 27720

// gain returns the greatest one of 0 and of what a section gains in a shift, in pieces.
func (o Office) gain(x Section, prices []int) int {
	most := 0
	for i, s := range o.Shifts {
		if s.isInTime(x) {
			most = max(most, x.Value*pieces-x.Work*prices[i])
		}
	}
	return most
}

// bound returns the bound that prices, in pieces, prove for an office without an error.
func (o Office) bound(prices []int) int {
	sum := 0
	for i, s := range o.Shifts {
		sum += prices[i] * s.Hours
	}
	for _, x := range o.Sections {
		sum += o.gain(x, prices)
	}
	return sum / pieces
}

// Bound returns the value that no plan exceeds, by prices of an hour of each shift.
func Bound(o Office, prices []api.Ratio) (int, api.Errno) {
	isTooFine := func(x api.Ratio) bool { return x.Den > MaxParts }
	e := base.FirstError(
		CheckOffice(o),
		base.ErrorIf(len(prices) != len(o.Shifts), api.ErrShape),
		base.CheckEach(prices, checkAmount),
		base.ErrorIf(slices.ContainsFunc(prices, isTooFine), api.ErrLarge),
	)
	if e != api.OK {
		return 0, e
	}
	return o.bound(base.Mapped(prices, func(x api.Ratio) int { return x.Num * (pieces / x.Den) })), api.OK
}
