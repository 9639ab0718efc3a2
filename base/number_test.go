package base_test

import (
	"math"
	"math/big"
	"testing"

	"versine/api"
	"versine/base"
)

func TestIntegersOfSamples(t *testing.T) {
	for integer := -16384; integer <= 16384; integer++ {
		x := float32(integer) / 16
		if base.SampleOf(integer) != x || base.IntegerOf(x) != integer || !base.IsOfSample(integer) {
			t.Errorf("the sample with the integer %v: got %v, and of %v %v, %v", integer, base.SampleOf(integer), x, base.IntegerOf(x), base.IsOfSample(integer))
		}
	}
	for _, integer := range []int{math.MinInt, -16385, 16385, math.MaxInt} {
		if base.IsOfSample(integer) {
			t.Errorf("IsOfSample of %v: got true", integer)
		}
	}
	if n := base.IntegerOf(float32(math.Copysign(0, -1))); n != 0 || math.Signbit(float64(base.SampleOf(n))) {
		t.Errorf("the integer of -0: got %v, of which %v", n, base.SampleOf(n))
	}
}

func TestRounded(t *testing.T) {
	for den := 1; den <= 12; den++ {
		for num := -60; num <= 60; num++ {
			n := base.Rounded(num, den) // from num/den - 1/2, without it, to num/den + 1/2
			if 2*den*n <= 2*num-den || 2*den*n > 2*num+den {
				t.Errorf("Rounded of %v and %v: got %v", num, den, n)
			}
		}
	}
	for i, x := range [][3]int{{1, 2, 1}, {-1, 2, 0}, {3, 2, 2}, {-3, 2, -1}, {0, 1, 0}, {1 << 60, 1, 1 << 60}, {-1 << 60, 1, -1 << 60}, {1 << 60, 1 << 60, 1}} {
		if n := base.Rounded(x[0], x[1]); n != x[2] {
			t.Errorf("Rounded %v: got %v, want %v", i, n, x[2])
		}
	}
}

func TestRoundedUp(t *testing.T) {
	for den := 1; den <= 12; den++ {
		for num := range 61 {
			if n := base.RoundedUp(num, den); n*den < num || n*den >= num+den {
				t.Errorf("RoundedUp of %v and %v: got %v", num, den, n)
			}
		}
	}
}

func TestRatio(t *testing.T) {
	for den := 1; den <= 24; den++ {
		for num := -48; num <= 48; num++ {
			x := big.NewRat(int64(num), int64(den))
			wanted := api.Ratio{Num: int(x.Num().Int64()), Den: int(x.Denom().Int64())}
			if got := base.Ratio(num, den); got != wanted {
				t.Errorf("Ratio of %v and %v: got %v", num, den, got)
			}
			if d := base.CommonDivisor(num, den); d*wanted.Den != den {
				t.Errorf("CommonDivisor of %v and %v: got %v", num, den, d)
			}
		}
	}
}
