package sample

import (
	"math"

	"versine/api"
	"versine/base"
)

const (
	// drawFactor and drawModulus generate the exchanges of the permutation.
	drawFactor  = 742938285
	drawModulus = 2147483647
)

// IsName reports whether a string is a name.
func IsName(s string) bool {
	if s == "" || len(s) > api.MaxName {
		return false
	}
	for i, c := range s {
		if !isLetter(c) && (i == 0 || !base.IsDigit(c) && c != '_') {
			return false
		}
	}
	return true
}

func isLetter(c rune) bool { return 'A' <= c && c <= 'Z' || 'a' <= c && c <= 'z' }

// Draw returns the permutation of n elements by a key.
func Draw(key, n int) ([]int, api.Errno) {
	if e := base.FirstError(base.CheckBetween(key, 1, drawModulus-1), base.CheckBetween(n, 0, api.MaxList)); e != api.OK {
		return nil, e
	}
	l := make([]int, n)
	for i := range l {
		l[i] = i
	}
	x := int64(key)
	for i := n - 1; i >= 1; i-- {
		x = drawFactor * x % drawModulus
		k := int(x % int64(i+1))
		l[i], l[k] = l[k], l[i]
	}
	return l, api.OK
}

// CheckRatio returns the first error of a ratio, or OK.
func CheckRatio(x api.Ratio) api.Errno {
	if e := base.FirstError(base.CheckBetween(x.Num, -api.MaxNumber, api.MaxNumber), base.CheckBetween(x.Den, 1, api.MaxNumber)); e != api.OK {
		return e
	}
	return base.ErrorIf(base.CommonDivisor(x.Num, x.Den) != 1, api.ErrForm)
}

// CheckSample returns the first error of a sample, or OK.
func CheckSample(x float32) api.Errno {
	if !isFinite(x) {
		return api.ErrForm
	}
	return base.ErrorIf(!isStep(x, api.MaxValue), api.ErrRange)
}

// checkSamples returns the error of the first sample with one, or OK.
func checkSamples(l ...float32) api.Errno {
	return base.CheckEach(l, CheckSample)
}

func isFinite(x float32) bool {
	return !math.IsNaN(float64(x)) && !math.IsInf(float64(x), 0)
}

// isStep reports whether a finite number is a multiple of 1/16 from -most to most.
func isStep(x float32, most int) bool {
	n := base.Grain * float64(x) // exact: a float64 has room for each float32, times 16
	return math.Abs(n) <= float64(base.Grain*most) && n == math.Trunc(n)
}
