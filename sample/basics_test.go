package sample_test

import (
	"math"
	"math/big"
	"strings"
	"testing"

	"versine/api"
	"versine/sample"
)

func TestNames(t *testing.T) {
	for s, is := range map[string]bool{
		"":                            false,
		"a":                           true,
		"Z":                           true,
		"cam_1":                       true,
		"a_":                          true,
		"_":                           false,
		"_a":                          false,
		"9":                           false,
		"9a":                          false,
		"a b":                         false,
		" a":                          false,
		"a ":                          false,
		"a\n":                         false,
		"a-b":                         false,
		"a.b":                         false,
		"é":                           false,
		"aé":                          false,
		"\u0430":                      false, // a Cyrillic letter
		"a\uff11":                     false, // a wide digit
		"a\u212a":                     false, // the sign of kelvin, whose small letter is k
		"a\xff":                       false,
		"\xc3":                        false,
		"a\x00":                       false,
		strings.Repeat("a", 24):       true,
		"a" + strings.Repeat("_", 23): true,
		strings.Repeat("a", 25):       false,
		strings.Repeat("a", 23) + "é": false,
		strings.Repeat("a", 10000):    false,
		"abcdefghijklmnopqrstuvwxyz":  false,
		"ABCDEFGHIJKLMNOPQRSTUVWX":    true,
		"Zz9_0123456789_abcdefghi":    true,
	} {
		want(t, "IsName of "+s, list(sample.IsName(s)), list(is))
	}
	const letters = "ABCDEFGHIJKLMNOPQRSTUVWXYZabcdefghijklmnopqrstuvwxyz"
	for b := range 256 {
		s := string([]byte{byte(b)})
		want(t, "IsName of a byte", list(b, sample.IsName(s)), list(b, strings.Contains(letters, s)))
		want(t, "IsName of a second byte", list(b, sample.IsName("x"+s)), list(b, strings.Contains(letters+"0123456789_", s)))
	}
}

// drawn is the permutation as the chapter defines it, computed with numbers without bounds.
func drawn(key, n int) []int {
	var l []int
	for i := range n {
		l = append(l, i)
	}
	x := big.NewInt(int64(key))
	for i := n - 1; i >= 1; i-- {
		x.Mod(x.Mul(x, big.NewInt(742938285)), big.NewInt(2147483647))
		k := int(new(big.Int).Mod(x, big.NewInt(int64(i+1))).Int64())
		l[i], l[k] = l[k], l[i]
	}
	return l
}

func TestDraw(t *testing.T) {
	for _, x := range []struct {
		key, n int
		l      []int
		e      api.Errno
	}{
		{1, 0, nil, api.OK},
		{1, 1, []int{0}, api.OK},
		{1, 2, []int{0, 1}, api.OK},
		{2, 2, []int{1, 0}, api.OK},
		{1, 5, []int{3, 4, 2, 1, 0}, api.OK},
		{7, 10, []int{6, 3, 4, 7, 2, 0, 8, 5, 9, 1}, api.OK},
		{2147483646, 8, []int{1, 4, 0, 6, 3, 5, 7, 2}, api.OK},
		{2147483646, 256, drawn(2147483646, 256), api.OK},
		{1, 256, drawn(1, 256), api.OK},
		{0, 1, nil, api.ErrRange},
		{-1, 1, nil, api.ErrRange},
		{2147483647, 1, nil, api.ErrRange},
		{math.MaxInt, 1, nil, api.ErrRange},
		{math.MinInt, 1, nil, api.ErrRange},
		{1, -1, nil, api.ErrRange},
		{1, 257, nil, api.ErrRange},
		{1, math.MaxInt, nil, api.ErrRange},
		{1, math.MinInt, nil, api.ErrRange},
	} {
		l, e := sample.Draw(x.key, x.n)
		want(t, "Draw", list(x.key, x.n, l, e), list(x.key, x.n, x.l, x.e))
	}
	g := source(1)
	for range 200 {
		key, n := 1+g.IntN(2147483646), g.IntN(257)
		l, e := sample.Draw(key, n)
		want(t, "Draw", list(key, n, l, e), list(key, n, drawn(key, n), api.OK))
	}
}

func TestRatios(t *testing.T) {
	for _, x := range []struct {
		num, den int
		e        api.Errno
	}{
		{2, 3, api.OK},
		{-2, 3, api.OK},
		{0, 1, api.OK},
		{1, 1, api.OK},
		{-1, 1, api.OK},
		{999999999, 1, api.OK},
		{-999999999, 1, api.OK},
		{1, 999999999, api.OK},
		{999999998, 999999999, api.OK},
		{-999999998, 999999999, api.OK},
		{2, 4, api.ErrForm},
		{-2, 4, api.ErrForm},
		{4, 2, api.ErrForm},
		{21, 14, api.ErrForm},
		{-21, 14, api.ErrForm},
		{0, 2, api.ErrForm},
		{0, 999999999, api.ErrForm},
		{999999999, 999999999, api.ErrForm},
		{-999999999, 999999999, api.ErrForm},
		{1000000000, 1, api.ErrRange},
		{-1000000000, 1, api.ErrRange},
		{1, 0, api.ErrRange},
		{0, 0, api.ErrRange},
		{1, -1, api.ErrRange},
		{2, -4, api.ErrRange},
		{1, 1000000000, api.ErrRange},
		{1000000000, 2, api.ErrRange},
		{2, 1000000000, api.ErrRange},
		{math.MinInt, 2, api.ErrRange},
		{math.MinInt, math.MinInt, api.ErrRange},
		{2, math.MinInt, api.ErrRange},
		{math.MaxInt, math.MaxInt, api.ErrRange},
	} {
		want(t, "CheckRatio", list(x.num, x.den, sample.CheckRatio(api.Ratio{Num: x.num, Den: x.den})), list(x.num, x.den, x.e))
	}
}

func TestSamples(t *testing.T) {
	for _, x := range []struct {
		n float32
		e api.Errno
	}{
		{0, api.OK},
		{minusZero, api.OK},
		{0.0625, api.OK},
		{-0.0625, api.OK},
		{1024, api.OK},
		{-1024, api.OK},
		{1023.9375, api.OK},
		{1024.0625, api.ErrRange},
		{-1024.0625, api.ErrRange},
		{0.03125, api.ErrRange},
		{-0.03125, api.ErrRange},
		{0.1, api.ErrRange},
		{math.SmallestNonzeroFloat32, api.ErrRange},
		{-math.SmallestNonzeroFloat32, api.ErrRange},
		{math.MaxFloat32, api.ErrRange},
		{-math.MaxFloat32, api.ErrRange},
		{math.Nextafter32(1024, 2000), api.ErrRange},
		{math.Nextafter32(1024, 0), api.ErrRange},
		{math.Nextafter32(0.0625, 1), api.ErrRange},
		{nan, api.ErrForm},
		{math.Float32frombits(0xffc00001), api.ErrForm},
		{infinite, api.ErrForm},
		{-infinite, api.ErrForm},
	} {
		want(t, "CheckSample", list(math.Float32bits(x.n), sample.CheckSample(x.n)), list(math.Float32bits(x.n), x.e))
	}
	for n := -64 * 1030; n <= 64*1030; n++ {
		e := api.ErrRange
		if n%4 == 0 && -64*1024 <= n && n <= 64*1024 {
			e = api.OK
		}
		want(t, "CheckSample of 64ths", list(n, sample.CheckSample(float32(n)/64)), list(n, e))
	}
}
