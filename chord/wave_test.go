package chord_test

import (
	"math"
	"testing"

	"versine/api"
	"versine/chord"
)

// powers has the powers of i.
func powers() [4]complex128 { return [4]complex128{1, 1i, -1, -1i} }

// transferOf is the transfer as the chapter defines it.
func transferOf(c chord.Chord) [4]complex128 {
	var out [4]complex128
	before, after := complex(float64(c.Before), 0), complex(float64(c.After), 0)
	for k := range out {
		out[k] = before + after - after*powers()[-k*c.Before&3] - before*powers()[k*c.After&3]
	}
	return out
}

func TestTransfer(t *testing.T) {
	for i, x := range []struct {
		c chord.Chord
		f [4]complex128
	}{
		{arms(1, 1), [4]complex128{0, 2, 4, 2}},
		{arms(1, 2), [4]complex128{0, 4 + 2i, 4, 4 - 2i}},
		{arms(2, 1), [4]complex128{0, 4 - 2i, 4, 4 + 2i}},
		{arms(2, 2), [4]complex128{0, 8, 0, 8}},
		{arms(4, 8), [4]complex128{}},
		{arms(32, 32), [4]complex128{}},
		{arms(1, 3), [4]complex128{0, 4 + 4i, 8, 4 - 4i}},
		{arms(31, 32), [4]complex128{0, 32 - 32i, 64, 32 + 32i}},
	} {
		f, e := chord.Transfer(x.c)
		want(t, "Transfer", list(i, f, e), list(i, x.f, api.OK))
	}
	for before := range 34 {
		for after := range 34 {
			c := arms(before, after)
			e := chord.CheckChord(c)
			var wanted [4]complex128
			if e == api.OK {
				wanted = transferOf(c)
			}
			f, g := chord.Transfer(c)
			want(t, "Transfer", list(c, f, g), list(c, wanted, e))
		}
	}
}

func TestBlind(t *testing.T) {
	for i, x := range []struct {
		c chord.Chord
		l []int
	}{
		{arms(4, 6), []int{2}},
		{arms(6, 12), []int{2, 3, 6}},
		{arms(12, 6), []int{2, 3, 6}},
		{arms(1, 32), nil},
		{arms(1, 1), nil},
		{arms(2, 2), []int{2}},
		{arms(31, 31), []int{31}},
		{arms(32, 32), []int{2, 4, 8, 16, 32}},
	} {
		l, e := chord.Blind(x.c)
		want(t, "Blind", list(i, l, e), list(i, x.l, api.OK))
	}
	for before := range 34 {
		for after := range 34 {
			c := arms(before, after)
			l, e := chord.Blind(c)
			want(t, "Blind", list(c, l, e), list(c, common(before, after), chord.CheckChord(c)))
		}
	}
}

// common returns the common divisors, from 2 on, of arms; none if one is not in its range.
func common(lengths ...int) []int {
	var l []int
next:
	for n := 2; n <= 32; n++ {
		for _, k := range lengths {
			if k < 1 || k > 32 {
				return nil
			}
			if k%n != 0 {
				continue next
			}
		}
		l = append(l, n)
	}
	return l
}

func TestBoth(t *testing.T) {
	for i, x := range []struct {
		c, d chord.Chord
		l    []int
		e    api.Errno
	}{
		{arms(4, 6), arms(6, 12), []int{2}, api.OK},
		{arms(6, 12), arms(4, 6), []int{2}, api.OK},
		{arms(6, 12), arms(6, 12), []int{2, 3, 6}, api.OK},
		{arms(6, 12), arms(12, 6), []int{2, 3, 6}, api.OK},
		{arms(6, 12), arms(6, 6), []int{2, 3, 6}, api.OK},
		{arms(12, 12), arms(12, 8), []int{2, 4}, api.OK},
		{arms(12, 12), arms(8, 12), []int{2, 4}, api.OK},
		{arms(2, 2), arms(3, 3), nil, api.OK},
		{arms(4, 6), arms(0, 12), nil, api.ErrRange},
		{arms(4, 33), arms(6, 12), nil, api.ErrRange},
		{arms(0, 0), arms(0, 0), nil, api.ErrRange},
		{arms(4, 6), arms(6, math.MinInt), nil, api.ErrRange},
	} {
		l, e := chord.Both(x.c, x.d)
		want(t, "Both", list(i, l, e), list(i, x.l, x.e))
	}
	g := source(6)
	for range 3000 {
		c, d := someChord(g, 32), someChord(g, 32)
		l, e := chord.Both(c, d)
		want(t, "Both", list(c, d, l, e), list(c, d, common(c.Before, c.After, d.Before, d.After), api.OK))
	}
}

// badWave is a wave with an error.
type badWave struct {
	wave []int
	e    api.Errno
}

// badWaves returns waves with each error, also where those that are listed later are there, too.
func badWaves() []badWave {
	return []badWave{
		{nil, api.ErrEmpty},
		{[]int{}, api.ErrEmpty},
		{constant(16385, 65), api.ErrMany},
		{constant(0, 65), api.ErrMany},
		{[]int{16385}, api.ErrRange},
		{[]int{0, -16385}, api.ErrRange},
		{[]int{math.MaxInt}, api.ErrRange},
		{append(constant(0, 63), math.MinInt), api.ErrRange},
	}
}

// sees reports whether a chord sees a wave, as the chapter defines it.
func sees(c chord.Chord, wave []int) bool {
	level := func(n int) int { return wave[(n+64*len(wave))%len(wave)] }
	for n := range wave {
		if (c.Before+c.After)*level(n)-c.After*level(n-c.Before)-c.Before*level(n+c.After) != 0 {
			return true
		}
	}
	return false
}

func TestSees(t *testing.T) {
	last := constant(16384, 64)
	last[63] = -16384
	for i, x := range []struct {
		c    chord.Chord
		wave []int
		sees bool
	}{
		{arms(4, 6), []int{1, -1}, false},
		{arms(4, 6), []int{1, 0, 0}, true},
		{arms(4, 6), []int{5}, false},
		{arms(4, 6), []int{0}, false},
		{arms(4, 6), []int{1, 2, 1, 2}, false},
		{arms(4, 6), []int{1, 2, 1, 3}, true},
		{arms(4, 6), []int{1, -1, 1, -1, 1, -1, 1}, true},
		{arms(6, 12), []int{1, 2, 3, 4, 5, 6}, false},
		{arms(6, 12), []int{1, 2, 3, 4, 5}, true},
		{arms(1, 1), []int{7}, false},
		{arms(1, 1), []int{1, -1}, true},
		{arms(32, 32), constant(16384, 64), false},
		{arms(32, 32), last, true},
		{arms(32, 32), last[32:], false},
		{arms(1, 32), last, true},
		{arms(32, 1), last[62:], true},
	} {
		got, e := chord.Sees(x.c, x.wave)
		want(t, "Sees", list(i, got, e), list(i, x.sees, api.OK))
	}
	for i, x := range badWaves() {
		got, e := chord.Sees(arms(4, 6), x.wave)
		want(t, "Sees of a bad wave", list(i, got, e), list(i, false, x.e))
		got, e = chord.Sees(arms(0, 6), x.wave)
		want(t, "Sees by a bad chord", list(i, got, e), list(i, false, api.ErrRange))
	}
	g := source(7)
	for range 5000 {
		c, wave := someChord(g, 32), make([]int, between(g, 1, 64))
		if period := 1 + g.IntN(32); g.IntN(2) == 0 { // one that may be blind
			wave = make([]int, period)
			c = arms(period*(1+g.IntN(32/period)), period*(1+g.IntN(32/period)))
		}
		for k := range wave {
			wave[k] = between(g, -1, 1) * 16384
		}
		got, e := chord.Sees(c, wave)
		want(t, "Sees", list(c, wave, got, e), list(c, wave, sees(c, wave), api.OK))
	}
}

// TestUnseenWavesRepeat checks that all waves that a chord does not see repeat the greatest common divisor of its arms.
func TestUnseenWavesRepeat(t *testing.T) {
	for before := 1; before <= 6; before++ {
		for after := 1; after <= 6; after++ {
			divisor := 1
			for _, n := range common(before, after) {
				divisor = n
			}
			for n := range 1 << 8 {
				var wave []int
				for k := range 8 {
					wave = append(wave, n>>k&1)
				}
				repeats := true
				for k := range wave {
					repeats = repeats && wave[k] == wave[(k+divisor)%8]
				}
				got, e := chord.Sees(arms(before, after), wave)
				want(t, "Sees", list(before, after, wave, got, e), list(before, after, wave, !repeats, api.OK))
			}
		}
	}
}

func TestRepeated(t *testing.T) {
	const most = api.MaxPlace
	full := make([]int, 64)
	for k := range full {
		full[k] = 16384 - 512*k
	}
	for i, x := range []struct {
		wave     []int
		first, n int
		t        chord.Trace
		e        api.Errno
	}{
		{[]int{1, 2, 3}, 5, 7, made(5, 1, 2, 3, 1, 2, 3, 1), api.OK},
		{[]int{1, 2, 3}, 5, 2, made(5, 1, 2), api.OK},
		{[]int{1, 2, 3}, 5, 0, made(5), api.OK},
		{[]int{16384, -16384}, 0, 2, made(0, 16384, -16384), api.OK},
		{full, 0, 64, made(0, full...), api.OK},
		{full, 0, 65, made(0, append(full, 16384)...), api.OK},
		{[]int{4}, most - 4096, 4096, made(most-4096, constant(4, 4096)...), api.OK},
		{[]int{4}, most, 0, made(most), api.OK},
		{[]int{4}, most - 1, 1, made(most-1, 4), api.OK},
		{[]int{4}, most, 1, chord.Trace{}, api.ErrLarge},
		{[]int{4}, most - 4095, 4096, chord.Trace{}, api.ErrLarge},
		{[]int{4}, 0, 4097, chord.Trace{}, api.ErrRange},
		{[]int{4}, 0, -1, chord.Trace{}, api.ErrRange},
		{[]int{4}, 0, math.MinInt, chord.Trace{}, api.ErrRange},
		{[]int{4}, most, math.MaxInt, chord.Trace{}, api.ErrRange},
		{[]int{4}, -1, 1, chord.Trace{}, api.ErrRange},
		{[]int{4}, most + 1, 0, chord.Trace{}, api.ErrRange},
		{[]int{4}, math.MaxInt, math.MaxInt, chord.Trace{}, api.ErrRange},
		{[]int{4}, math.MinInt, 4097, chord.Trace{}, api.ErrRange},
	} {
		got, e := chord.Repeated(x.wave, x.first, x.n)
		want(t, "Repeated", list(i, got, e), list(i, x.t, x.e))
	}
	for i, x := range badWaves() {
		got, e := chord.Repeated(x.wave, 0, 4)
		want(t, "Repeated of a bad wave", list(i, got, e), list(i, chord.Trace{}, x.e))
		got, e = chord.Repeated(x.wave, -1, -1)
		want(t, "Repeated of a bad wave", list(i, got, e), list(i, chord.Trace{}, x.e))
	}
}

// panelOf is the transform of four values.
func panelOf(l [4]int) [4]complex128 {
	part := func(re, im int) complex128 { return complex(float64(re), float64(im)) }
	return [4]complex128{
		part(l[0]+l[1]+l[2]+l[3], 0),
		part(l[0]-l[2], l[3]-l[1]),
		part(l[0]-l[1]+l[2]-l[3], 0),
		part(l[0]-l[2], l[1]-l[3]),
	}
}

func TestPanel(t *testing.T) {
	const most = 1 << 30
	for i, x := range []struct {
		t     chord.Trace
		place int
		p     [4]complex128
		e     api.Errno
	}{
		{squares(), 10, [4]complex128{14, -4 + 8i, -6, -4 - 8i}, api.OK},
		{squares(), 11, [4]complex128{30, -8 + 12i, -10, -8 - 12i}, api.OK},
		{squares(), 12, [4]complex128{54, -12 + 16i, -14, -12 - 16i}, api.OK},
		{squares(), 13, [4]complex128{}, api.ErrUnknown},
		{squares(), 15, [4]complex128{}, api.ErrUnknown},
		{squares(), 16, [4]complex128{}, api.ErrUnknown},
		{squares(), 9, [4]complex128{}, api.ErrUnknown},
		{squares(), 0, [4]complex128{}, api.ErrUnknown},
		{squares(), -1, [4]complex128{}, api.ErrUnknown},
		{squares(), math.MinInt, [4]complex128{}, api.ErrUnknown},
		{squares(), math.MinInt + 11, [4]complex128{}, api.ErrUnknown},
		{squares(), math.MaxInt, [4]complex128{}, api.ErrUnknown},
		{squares(), math.MaxInt - 2, [4]complex128{}, api.ErrUnknown},
		{torn(), 10, [4]complex128{}, api.ErrNone},
		{torn(), 11, [4]complex128{}, api.ErrNone},
		{torn(), 12, [4]complex128{}, api.ErrNone},
		{torn(), 13, [4]complex128{}, api.ErrUnknown},
		{made(0, 1, 1, 1, unknown), 0, [4]complex128{}, api.ErrNone},
		{made(0, unknown, 1, 1, 1, 1, unknown), 1, [4]complex128{4, 0, 0, 0}, api.OK},
		{made(0, unknown, 1, 1, 1, 1, unknown), 0, [4]complex128{}, api.ErrNone},
		{made(0, unknown, 1, 1, 1, 1, unknown), 2, [4]complex128{}, api.ErrNone},
		{made(0, unknown, 1, 1, 1, 1, unknown), 3, [4]complex128{}, api.ErrUnknown},
		{made(0, unknown, unknown, unknown), 0, [4]complex128{}, api.ErrUnknown},
		{made(0, unknown, unknown, unknown, unknown), 0, [4]complex128{}, api.ErrNone},
		{made(0), 0, [4]complex128{}, api.ErrUnknown},
		{made(0, 1, 2, 3), 0, [4]complex128{}, api.ErrUnknown},
		{made(api.MaxPlace-4, 0, 1, 0, 0), api.MaxPlace - 4, [4]complex128{1, -1i, -1, 1i}, api.OK},
		{made(api.MaxPlace-4, 0, 1, 0, 0), api.MaxPlace - 3, [4]complex128{}, api.ErrUnknown},
		{made(0, most, most, most, most), 0, [4]complex128{1 << 32, 0, 0, 0}, api.OK},
		{made(0, -most, -most, -most, -most), 0, [4]complex128{-1 << 32, 0, 0, 0}, api.OK},
		{made(0, most, most-1, -most, -most), 0, [4]complex128{-1, complex(1<<31, 1-1<<31), 1, complex(1<<31, 1<<31-1)}, api.OK},
	} {
		p, e := chord.Panel(x.t, x.place)
		want(t, "Panel", list(i, p, e), list(i, x.p, x.e))
	}
	for i, x := range badTraces() {
		for _, place := range []int{-1, 0, x.t.First} {
			p, e := chord.Panel(x.t, place)
			want(t, "Panel of a bad trace", list(i, p, e), list(i, [4]complex128{}, x.e))
		}
	}
	g := source(8)
	for range 1000 {
		var l [4]int
		for n := range l {
			l[n] = between(g, -most, most)
		}
		p, e := chord.Panel(made(5, append(l[:], 9, 9)...), 5)
		want(t, "Panel", list(l, p, e), list(l, panelOf(l), api.OK))
	}
}
