package base

import (
	"versine/api"
)

const (
	// Grain is how many steps of a sample are 1.
	Grain = 16
	// MaxInteger is the greatest integer of a sample.
	MaxInteger = Grain * api.MaxValue
)

// IntegerOf returns the integer of a sample.
func IntegerOf(x float32) int { return int(Grain * x) }

// SampleOf returns the sample with an integer; it is never -0.
func SampleOf(integer int) float32 { return float32(integer) / Grain }

// IsOfSample reports whether an integer is that of a sample.
func IsOfSample(integer int) bool { return -MaxInteger <= integer && integer <= MaxInteger }

// Rounded returns a quotient with a denominator above 0, rounded to the nearest
// integer, from the middle to the greater one.
func Rounded(num, den int) int {
	num, den = 2*num+den, 2*den
	if num < 0 { // Go's division goes towards 0, this one downwards
		return -((den - 1 - num) / den)
	}
	return num / den
}

// RoundedUp returns a quotient that is not below 0, with a denominator above 0, rounded up.
func RoundedUp(num, den int) int { return (num + den - 1) / den }

// CommonDivisor returns the greatest common divisor of any number and one above 0.
func CommonDivisor(a, b int) int {
	a = max(a, -a)
	for a != 0 {
		a, b = b%a, a
	}
	return b
}

// Ratio returns a quotient with a denominator above 0 in lowest terms.
func Ratio(num, den int) api.Ratio {
	d := CommonDivisor(num, den)
	return api.Ratio{Num: num / d, Den: den / d}
}
