package sample_test

import (
	"math"
	"math/rand/v2"
	"slices"
	"testing"

	"versine/api"
	"versine/sample"
)

// guarded returns a list with room behind it, and whether nobody wrote into it or its room.
func guarded[T comparable](l []T, guard T) ([]T, func() bool) {
	room := append(slices.Clone(l), guard, guard, guard)
	before := slices.Clone(room)
	return room[:len(l)], func() bool { return slices.Equal(room, before) }
}

// guardedRun returns a run with such lists.
func guardedRun(r sample.Run) (sample.Run, func() bool) {
	samples, areSame := guarded(r.Samples, -7)
	holes, areHolesSame := guarded(r.Holes, span(-7, -7))
	r.Samples, r.Holes = samples, holes
	return r, func() bool { return areSame() && areHolesSame() }
}

// spoil writes over all that a run has.
func spoil(r sample.Run) {
	for i := range r.Samples {
		r.Samples[i] = 99
	}
	for i := range r.Holes {
		r.Holes[i] = span(-9, -9)
	}
}

func copied(r sample.Run) sample.Run {
	r.Samples, r.Holes = slices.Clone(r.Samples), slices.Clone(r.Holes)
	return r
}

// TestRunsShareNoMemory checks of all functions that return runs that the arguments stay, and that results are new memory.
func TestRunsShareNoMemory(t *testing.T) {
	for name, f := range map[string]func(a, b sample.Run) (sample.Run, api.Errno){
		"Cropped":  func(a, b sample.Run) (sample.Run, api.Errno) { return sample.Cropped(a, span(100, 105)) },
		"a part":   func(a, b sample.Run) (sample.Run, api.Errno) { return sample.Cropped(a, span(100, 103)) },
		"Reversed": func(a, b sample.Run) (sample.Run, api.Errno) { return sample.Reversed(a) },
		"Joined":   func(a, b sample.Run) (sample.Run, api.Errno) { return sample.Joined(a, b) },
		"Joined with nothing": func(a, b sample.Run) (sample.Run, api.Errno) {
			return sample.Joined(a, run("n", 105, nil))
		},
		"nothing joined": func(a, b sample.Run) (sample.Run, api.Errno) { return sample.Joined(run("n", 100, nil), a) },
		"Sum":            func(a, b sample.Run) (sample.Run, api.Errno) { return sample.Sum(a, a) },
		"Scaled":         func(a, b sample.Run) (sample.Run, api.Errno) { return sample.Scaled(a, 1, 1) },
		"Scaled by less": func(a, b sample.Run) (sample.Run, api.Errno) { return sample.Scaled(a, 1, 3) },
		"Thinned":        func(a, b sample.Run) (sample.Run, api.Errno) { return sample.Thinned(a, 1) },
		"Thinned more":   func(a, b sample.Run) (sample.Run, api.Errno) { return sample.Thinned(a, 2) },
		"Filled":         func(a, b sample.Run) (sample.Run, api.Errno) { return sample.Filled(a, 4) },
		"Filled by 0":    func(a, b sample.Run) (sample.Run, api.Errno) { return sample.Filled(a, 0) },
		"Voted": func(a, b sample.Run) (sample.Run, api.Errno) {
			r, _, e := sample.Voted([3]sample.Run{a, a, a}, 1)
			return r, e
		},
	} {
		a, isSame := guardedRun(shown())
		b, isOtherSame := guardedRun(run("s", 105, []float32{0, 3}, span(0, 1)))
		r, e := f(a, b)
		first := copied(r)
		want(t, name, list(e, isSame(), isOtherSame()), list(api.OK, true, true))
		spoil(r)
		want(t, name+" and spoiled", list(isSame(), isOtherSame()), list(true, true))
		again, _ := f(a, b)
		want(t, name+" again", list(again), list(first))
		spoil(a)
		spoil(b)
		want(t, name+" of spoiled arguments", list(again), list(first))
	}
}

// TestListsShareNoMemory checks the same of the functions of other lists.
func TestListsShareNoMemory(t *testing.T) {
	r, isSame := guardedRun(shown())
	s, e := sample.Pack(r)
	want(t, "Pack", list(e, isSame()), list(api.OK, true))
	s, isStreamSame := guarded(s, 7)
	back, e := sample.Unpack(s)
	want(t, "Unpack", list(e, isStreamSame()), list(api.OK, true))
	clear(s)
	want(t, "Unpack of a spoiled stream", list(back), list(shown()))
	text, e := sample.Print(r)
	want(t, "Print", list(text, e, isSame()), list(written(shown()), api.OK, true))
	at, _, _ := sample.At(r, 101)
	_, _ = sample.Known(r)
	_, _ = sample.Energy(r)
	_, _ = sample.Mean(r)
	want(t, "At and the counts", list(at, sample.CheckRun(r), isSame()), list(float32(2), api.OK, true))

	f := frame(1, 258, 1, -0.5, 0)
	sent, isSame := guarded(joined([]byte{1}, f[:], []byte{2}), 7)
	l, skipped, e := sample.Received(sent)
	clear(sent)
	want(t, "Received", list(l, skipped, e), list([]sample.Packet{packet(1, 258, 1, -0.5, 0)}, []api.Span{span(0, 1), span(21, 22)}, api.OK))
	want(t, "a cleared stream", list(isSame()), list(false))
	packets, isSame := guarded(ofSource(5, -2, 8), packet(3, 9, 0, 0, 0))
	lost, e := sample.Lost(packets, 3)
	want(t, "Lost", list(lost, e, isSame()), list([]int{6, 7}, api.OK, true))
	x, _ := sample.Draw(7, 10)
	y, _ := sample.Draw(7, 10)
	clear(x)
	want(t, "Draw", list(y), list([]int{6, 3, 4, 7, 2, 0, 8, 5, 9, 1}))
}

// anyInt, anyFloat, anySpan and anyRun return arguments of any form.
func anyInt(g *rand.Rand) int {
	l := []int{math.MinInt, math.MinInt + 1, -1 << 31, -1001, -1, 0, 1, 2, 3, 64, 100, 255, 256, 4096, 65535, 65536, api.MaxPlace, 1 << 31, 1 << 32, math.MaxInt - 1, math.MaxInt}
	return l[g.IntN(len(l))]
}

func anyFloat(g *rand.Rand) float32 {
	l := []float32{0, minusZero, 1, -1, 0.0625, 0.03125, 1024, -1024, 1025, 4096, nan, infinite, -infinite, math.MaxFloat32, math.SmallestNonzeroFloat32}
	if g.IntN(2) == 0 {
		return math.Float32frombits(g.Uint32())
	}
	return l[g.IntN(len(l))]
}

func anySpan(g *rand.Rand) api.Span { return span(anyInt(g), anyInt(g)) }

func anyRun(g *rand.Rand) sample.Run {
	if g.IntN(2) == 0 {
		l := fixedRuns()
		return l[g.IntN(len(l))]
	}
	names := []string{"", "a", "9", "a b", "\xff", "abcdefghijklmnopqrstuvwxyz"}
	r := sample.Run{Name: names[g.IntN(len(names))], First: anyInt(g)}
	if g.IntN(2) == 0 {
		r.Name, r.First = "r", g.IntN(api.MaxPlace)
	}
	for range g.IntN(4) {
		r.Samples = append(r.Samples, anyFloat(g))
	}
	if g.IntN(2) == 0 {
		r.Samples = make([]float32, g.IntN(5000))
	}
	for range g.IntN(4) {
		r.Holes = append(r.Holes, anySpan(g))
	}
	return r
}

func anyPackets(g *rand.Rand) []sample.Packet {
	var l []sample.Packet
	for range g.IntN(5) {
		l = append(l, packet(anyInt(g), anyInt(g), anyFloat(g), anyFloat(g), anyFloat(g)))
	}
	return l
}

func anyBytes(g *rand.Rand) []byte {
	s, _ := sample.Pack(shown())
	f := frame(anyInt(g), anyInt(g), anyFloat(g), anyFloat(g), anyFloat(g))
	s = [][]byte{s, f[:], nil, make([]byte, 500000)}[g.IntN(4)]
	for range g.IntN(4) {
		if len(s) > 0 {
			s[g.IntN(len(s))] = byte(g.IntN(256))
		}
	}
	return s[:g.IntN(len(s)+1)]
}

func anyText(g *rand.Rand) string {
	words := []string{"run", "samples", "hole", "a", "0", "1", "-1", "-0", "01", "999999999", "9999999999", "", " ", "\n", "\n", "\n", "\xff", "\x00", "é"}
	s := []string{"", "run a 0\n", "run r 100\nsamples 16 32\nhole 2\n"}[g.IntN(3)]
	for range g.IntN(12) {
		s += words[g.IntN(len(words))]
		if g.IntN(4) > 0 {
			s += " "
		}
	}
	return s
}

// allResults returns the results of all functions for arguments of any form.
func allResults(g *rand.Rand) []any {
	var out []any
	add := func(l ...any) { out = append(out, l...) }
	a, b, c := anyRun(g), anyRun(g), anyRun(g)
	if g.IntN(2) == 0 {
		b, c = a, a
	}
	n, m := anyInt(g), anyInt(g)
	s, text, packets := anyBytes(g), anyText(g), anyPackets(g)
	x := [4]float32{anyFloat(g), anyFloat(g), anyFloat(g), anyFloat(g)}
	y := [4]float32{anyFloat(g), anyFloat(g), anyFloat(g), anyFloat(g)}
	var f [20]byte
	copy(f[:], s)
	add(sample.IsName(text), sample.CheckRatio(api.Ratio{Num: n, Den: m}), sample.CheckSample(x[0]), sample.CheckRun(a))
	add(sample.Draw(n, m))
	add(sample.At(a, n))
	add(sample.Known(a))
	add(sample.Cropped(a, span(n, m)))
	add(sample.Reversed(a))
	add(sample.Joined(a, b))
	add(sample.Sum(a, b))
	add(sample.Scaled(a, n, m))
	add(sample.Thinned(a, n))
	add(sample.Filled(a, n))
	add(sample.Voted([3]sample.Run{a, b, c}, x[0]))
	add(sample.Energy(a))
	add(sample.Mean(a))
	add(sample.Four(x))
	add(sample.Unfour([4]complex64{complex(x[0], y[0]), complex(x[1], y[1]), complex(x[2], y[2]), complex(x[3], y[3])}))
	add(sample.Encode(packet(n, m, x[0], x[1], x[2])))
	add(sample.Decode(f))
	add(sample.Received(s))
	add(sample.Lost(packets, n))
	add(sample.Pack(a))
	add(sample.Unpack(s))
	add(sample.Print(a))
	add(sample.Parse(text))
	return out
}

// TestAnyArguments checks that no function panics or does not terminate, and that each returns the same results again.
func TestAnyArguments(t *testing.T) {
	for seed := range uint64(1000) {
		want(t, "results again", list(seed, allResults(source(seed))), list(seed, allResults(source(seed))))
	}
}

// TestResultsAreWellFormed checks that each run that is returned without an error is one.
func TestResultsAreWellFormed(t *testing.T) {
	g := source(11)
	for range 2000 {
		results := allResults(g)
		for i, x := range results {
			r, is := x.(sample.Run)
			if !is {
				continue
			}
			e := sample.CheckRun(r)
			isNone := r.Name == "" && r.First == 0 && len(r.Samples)+len(r.Holes) == 0
			if e != api.OK && !isNone {
				t.Errorf("the result %v: got %v with the error %v", i, r, e)
			}
		}
	}
}
