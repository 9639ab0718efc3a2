package inertia

import (
	"versine/api"
	"versine/base"
	"versine/sample"
)

// line is a line over indices: its numbers are divided by one denominator.
type line struct {
	level int
	slope int
	den   int
}

// lineOf returns the least squares line of at least 2 integers. With the sum S of n
// of them, and the sum M of each one times its index, its slope is 12 M - 6 (n - 1) S
// divided by n (n - 1) (n + 1), and its level (4 n - 2) S - 6 M divided by n (n + 1).
func lineOf(l []int) line {
	n, sum, moment := len(l), 0, 0
	for i, x := range l {
		sum += x
		moment += i * x
	}
	return line{
		level: ((4*n-2)*sum - 6*moment) * (n - 1),
		slope: 12*moment - 6*(n-1)*sum,
		den:   n * (n - 1) * (n + 1),
	}
}

// trend returns the trend that a line is, of ratios of any size.
func (x line) trend() Trend { return Trend{base.Ratio(x.level, x.den), base.Ratio(x.slope, x.den)} }

// without returns integers less the values of a line, rounded once.
func (x line) without(l []int) []int {
	out := make([]int, len(l))
	for i, n := range l {
		out[i] = base.Rounded(n*x.den-x.level-x.slope*i, x.den)
	}
	return out
}

// Fitted returns the least squares line of a signal.
func Fitted(l []float32) (Trend, api.Errno) {
	if e := checkLine(l); e != api.OK {
		return Trend{}, e
	}
	t := lineOf(integersOf(l)).trend()
	if base.FirstError(sample.CheckRatio(t.Level), sample.CheckRatio(t.Slope)) != api.OK {
		return Trend{}, api.ErrLarge
	}
	return t, api.OK
}

// flat is the trend of a signal that needs no leveling.
var flat = Trend{Level: api.Ratio{Num: 0, Den: 1}, Slope: api.Ratio{Num: 0, Den: 1}}

// Leveled returns a signal without its least squares line.
func Leveled(l []float32) ([]float32, api.Errno) {
	if e := checkLine(l); e != api.OK {
		return nil, e
	}
	integers := integersOf(l)
	x := lineOf(integers)
	if x.trend() == flat {
		return signalOf(integers)
	}
	return signalOf(x.without(integers))
}

// Straightened returns a signal without the line from its first to its last sample.
func Straightened(l []float32) ([]float32, api.Errno) {
	if e := checkLine(l); e != api.OK {
		return nil, e
	}
	integers := integersOf(l)
	steps := len(l) - 1
	first, last := integers[0], integers[steps]
	return signalOf(line{level: first * steps, slope: last - first, den: steps}.without(integers))
}
