package sample

import (
	"slices"

	"versine/api"
	"versine/base"
)

// CheckRun returns the first error of a run, or OK.
func CheckRun(r Run) api.Errno {
	n := len(r.Samples)
	e := base.FirstError(
		base.ErrorIf(!IsName(r.Name), api.ErrName),
		base.CheckBetween(r.First, 0, api.MaxPlace),
		base.ErrorIf(n > api.MaxSamples, api.ErrMany),
	)
	if e != api.OK {
		return e
	}
	return base.FirstError(
		checkSamples(r.Samples...),
		base.ErrorIf(r.First+n > api.MaxPlace, api.ErrLarge),
		base.CheckHoles(r.Samples, r.Holes),
	)
}

// cell is what a run has at a place: the integer of a sample, or nothing known.
// Computations with integers are exact, and know no -0.
type cell struct {
	integer int
	known   bool
}

// cellsOf returns the cells of a run without an error.
func cellsOf(r Run) []cell {
	cells := base.Mapped(r.Samples, func(x float32) cell { return cell{base.IntegerOf(x), true} })
	for _, h := range r.Holes {
		clear(cells[h.From:h.To])
	}
	return cells
}

// runOf returns the run with these cells.
func runOf(name string, first int, cells []cell) Run {
	samples := base.Mapped(cells, func(c cell) float32 { return base.SampleOf(c.integer) })
	known := base.Mapped(cells, func(c cell) bool { return c.known })
	return Run{Name: name, First: first, Samples: samples, Holes: base.HolesOf(known)}
}

// areSamples reports whether all integers of cells are those of samples.
func areSamples(cells []cell) bool {
	return !slices.ContainsFunc(cells, func(c cell) bool {
		return !base.IsOfSample(c.integer)
	})
}

// endOf returns the place after the last one of a run.
func endOf(r Run) int { return r.First + len(r.Samples) }

// At returns the sample at a place, and whether it is known.
func At(r Run, place int) (float32, bool, api.Errno) {
	if e := CheckRun(r); e != api.OK {
		return 0, false, e
	}
	if place < r.First || place >= endOf(r) {
		return 0, false, api.ErrUnknown
	}
	c := cellsOf(r)[place-r.First]
	return base.SampleOf(c.integer), c.known, api.OK
}

// Known returns the number of known samples.
func Known(r Run) (int, api.Errno) {
	if e := CheckRun(r); e != api.OK {
		return 0, e
	}
	return len(knownOf(cellsOf(r))), api.OK
}

// knownOf returns the integers of all known cells.
func knownOf(cells []cell) []int {
	var out []int
	for _, c := range cells {
		if c.known {
			out = append(out, c.integer)
		}
	}
	return out
}

// Cropped returns the part of a run in a span of places.
func Cropped(r Run, places api.Span) (Run, api.Errno) {
	if e := CheckRun(r); e != api.OK {
		return Run{}, e
	}
	if places.From >= places.To || places.From < r.First || places.To > endOf(r) {
		return Run{}, api.ErrSpan
	}
	cells := cellsOf(r)[places.From-r.First : places.To-r.First]
	return runOf(r.Name, places.From, cells), api.OK
}

// Reversed returns a run in the opposite direction.
func Reversed(r Run) (Run, api.Errno) {
	if e := CheckRun(r); e != api.OK {
		return Run{}, e
	}
	cells := cellsOf(r)
	slices.Reverse(cells)
	return runOf(r.Name, r.First, cells), api.OK
}

// Joined returns two runs, joined.
func Joined(a, b Run) (Run, api.Errno) {
	if e := base.FirstError(CheckRun(a), CheckRun(b)); e != api.OK {
		return Run{}, e
	}
	e := base.FirstError(
		base.ErrorIf(b.First < endOf(a), api.ErrOrder),
		base.ErrorIf(endOf(b)-a.First > api.MaxSamples, api.ErrMany),
	)
	if e != api.OK {
		return Run{}, e
	}
	gap := make([]cell, b.First-endOf(a))
	return runOf(a.Name, a.First, slices.Concat(cellsOf(a), gap, cellsOf(b))), api.OK
}

// haveOneShape reports whether two runs have one first place and one number of samples.
func haveOneShape(a, b Run) bool {
	return a.First == b.First && len(a.Samples) == len(b.Samples)
}

// Sum returns the sum of two runs.
func Sum(a, b Run) (Run, api.Errno) {
	if e := base.FirstError(CheckRun(a), CheckRun(b), base.ErrorIf(!haveOneShape(a, b), api.ErrShape)); e != api.OK {
		return Run{}, e
	}
	cells, others := cellsOf(a), cellsOf(b)
	for i, c := range others {
		if !cells[i].known || !c.known {
			cells[i] = cell{}
			continue
		}
		cells[i].integer += c.integer
	}
	if !areSamples(cells) {
		return Run{}, api.ErrLarge
	}
	return runOf(a.Name, a.First, cells), api.OK
}

// Scaled returns a run, scaled by a numerator and a denominator.
func Scaled(r Run, num, den int) (Run, api.Errno) {
	e := base.FirstError(CheckRun(r), base.CheckBetween(num, -MaxScale, MaxScale), base.CheckBetween(den, 1, MaxScale))
	if e != api.OK {
		return Run{}, e
	}
	cells := base.Mapped(cellsOf(r), func(c cell) cell {
		return cell{base.Rounded(c.integer*num, den), c.known}
	})
	if !areSamples(cells) {
		return Run{}, api.ErrLarge
	}
	return runOf(r.Name, r.First, cells), api.OK
}

// Thinned returns a run, thinned by a step.
func Thinned(r Run, step int) (Run, api.Errno) {
	if e := base.FirstError(CheckRun(r), base.CheckBetween(step, 1, MaxStep)); e != api.OK {
		return Run{}, e
	}
	if r.First%step != 0 {
		return Run{}, api.ErrRule
	}
	var kept []cell
	for i, c := range cellsOf(r) {
		if i%step == 0 {
			kept = append(kept, c)
		}
	}
	return runOf(r.Name, r.First/step, kept), api.OK
}

// Filled returns a run whose short holes are filled.
func Filled(r Run, most int) (Run, api.Errno) {
	if e := base.FirstError(CheckRun(r), base.CheckBetween(most, 0, api.MaxSamples)); e != api.OK {
		return Run{}, e
	}
	cells := cellsOf(r)
	filled := make([]cell, len(cells))
	copy(filled, cells)
	for _, h := range r.Holes {
		if h.To-h.From <= most && h.From > 0 && h.To < len(cells) {
			fill(filled[h.From:h.To], cells[h.From-1].integer, cells[h.To].integer)
		}
	}
	return runOf(r.Name, r.First, filled), api.OK
}

// fill gives cells the integers on the straight line between those before and after them.
func fill(cells []cell, before, after int) {
	steps := len(cells) + 1
	for i := range cells {
		cells[i] = cell{base.Rounded(before*steps+(after-before)*(i+1), steps), true}
	}
}

// Energy returns the energy of a run.
func Energy(r Run) (int, api.Errno) {
	if e := CheckRun(r); e != api.OK {
		return 0, e
	}
	sum := 0
	for _, n := range knownOf(cellsOf(r)) {
		sum += n * n
	}
	return sum, api.OK
}

// Mean returns the mean of the known samples.
func Mean(r Run) (api.Ratio, api.Errno) {
	if e := CheckRun(r); e != api.OK {
		return api.Ratio{}, e
	}
	known := knownOf(cellsOf(r))
	if len(known) == 0 {
		return api.Ratio{}, api.ErrNone
	}
	sum, den := 0, base.Grain*len(known)
	for _, n := range known {
		sum += n
	}
	return base.Ratio(sum, den), api.OK
}
