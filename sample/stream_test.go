package sample_test

import (
	"bytes"
	"encoding/binary"
	"math"
	"slices"
	"strings"
	"testing"

	"versine/api"
	"versine/sample"
)

// stream returns the stream of a run, which may have errors.
func stream(r sample.Run) []byte {
	s := append([]byte("RUNS"), byte(len(r.Name)))
	s = append(s, r.Name...)
	s = binary.BigEndian.AppendUint32(s, uint32(r.First))
	s = binary.BigEndian.AppendUint16(s, uint16(len(r.Samples)))
	for _, x := range r.Samples {
		s = binary.BigEndian.AppendUint32(s, math.Float32bits(x))
	}
	s = binary.BigEndian.AppendUint16(s, uint16(len(r.Holes)))
	for _, h := range r.Holes {
		s = binary.BigEndian.AppendUint16(s, uint16(h.From))
		s = binary.BigEndian.AppendUint16(s, uint16(h.To))
	}
	return sealed(s...)
}

// fixedRuns returns runs of all kinds.
func fixedRuns() []sample.Run {
	comb := make([]int, 4096)
	for i := range comb {
		if i%2 == 0 {
			comb[i] = unknown
		}
	}
	return []sample.Run{
		shown(),
		run("a", 0, nil),
		run("abcdefghijklmnopqrstuvwx", api.MaxPlace, nil),
		run("Z9_", api.MaxPlace-1, []float32{-1024}),
		hidden("a", 0, 1),
		hidden("a", 16909060, 4096),
		made("a", 0, comb...),
		made("a", 1, unknown, 1, unknown),
		made("a", 2, 1, unknown, 2),
		made("a", 3, 16384, -16384, 0, 1, -1),
		made("a", 255, slices.Repeat([]int{-16384}, 4096)...),
	}
}

// manyRuns returns these and others.
func manyRuns() []sample.Run {
	l := fixedRuns()
	g := source(7)
	for range 200 {
		l = append(l, made("some", g.IntN(1000), someIntegers(g, 20, 40)...))
	}
	return l
}

func TestPack(t *testing.T) {
	s, e := sample.Pack(shown())
	want(t, "Pack", list(s, e), list([]byte{82, 85, 78, 83, 1, 114, 0, 0, 0, 100, 0, 5, 63, 128, 0, 0, 64, 0, 0, 0, 0, 0, 0, 0, 0, 0, 0, 0, 64, 160, 0, 0, 0, 1, 0, 2, 0, 4, 0, 190, 249, 30}, api.OK))
	for i, r := range manyRuns() {
		s, e := sample.Pack(r)
		want(t, "Pack", list(i, s, e), list(i, stream(r), api.OK))
		back, e := sample.Unpack(s)
		want(t, "Unpack of Pack", list(i, back, e), list(i, r, api.OK))
	}
	s, e = sample.Pack(run("a", 0, []float32{minusZero, minusZero}, span(1, 2)))
	want(t, "Pack of -0", list(s, e), list(stream(run("a", 0, []float32{0, 0}, span(1, 2))), api.OK))
	for i, x := range badRuns() {
		s, e := sample.Pack(x.r)
		want(t, "Pack of no run", list(i, s, e), list(i, []byte(nil), x.e))
	}
}

func TestUnpack(t *testing.T) {
	good := stream(shown())
	for end := range good {
		r, e := sample.Unpack(good[:end])
		want(t, "Unpack of a torn stream", list(end, r, e), list(end, sample.Run{}, api.ErrTorn))
	}
	for at := range good {
		for b := range 256 {
			s := slices.Clone(good)
			s[at] = byte(b)
			r, e := sample.Unpack(s)
			wanted := sample.Run{}
			if s[at] == good[at] {
				wanted = shown()
			}
			want(t, "Unpack with another byte", list(at, b, r, e == api.OK), list(at, b, wanted, s[at] == good[at]))
		}
	}
	change := func(at int, b byte) []byte {
		s := slices.Clone(good)
		s[at] = b
		return s
	}
	with := func(x float32) sample.Run { return run("r", 0, []float32{1, x}) }
	for i, x := range []struct {
		s []byte
		e api.Errno
	}{
		{nil, api.ErrTorn},
		{[]byte("XYZ"), api.ErrTorn},
		{[]byte("RUN"), api.ErrTorn},
		{[]byte("RUNS"), api.ErrTorn},
		{[]byte("RUNX"), api.ErrForm},
		{[]byte("runs"), api.ErrForm},
		{change(3, 'T')[:20], api.ErrForm},
		{append(change(0, 'X'), 0), api.ErrForm},
		{[]byte("RUNS\xffabc"), api.ErrTorn},
		{change(4, 200), api.ErrTorn},
		{change(10, 255), api.ErrTorn},
		{change(11, 6), api.ErrTorn},
		{change(32, 255), api.ErrTorn},
		{change(33, 2), api.ErrTorn},
		{change(33, 0), api.ErrShape},
		{append(slices.Clone(good), 0), api.ErrShape},
		{append(change(41, 0), 0), api.ErrShape},
		{append(change(5, '9'), good...), api.ErrShape},
		{change(9, 101), api.ErrCheck},
		{change(5, '9'), api.ErrCheck},
		{change(12, 255), api.ErrCheck},
		{change(38, 1), api.ErrCheck},
		{change(41, 31), api.ErrCheck},
		{stream(with(minusZero)), api.ErrForm},
		{stream(run("r", 0, []float32{minusZero, 1}, span(0, 1))), api.ErrForm},
		{stream(run("r", 0, []float32{minusZero, 1}, span(0, 0))), api.ErrSpan},
		{stream(run("", 0, []float32{minusZero})), api.ErrName},
		{stream(run("9", 0, nil)), api.ErrName},
		{stream(run(strings.Repeat("a", 25), 0, nil)), api.ErrName},
		{stream(run(strings.Repeat("a", 255), 0, nil)), api.ErrName},
		{stream(run("r", api.MaxPlace+1, nil)), api.ErrRange},
		{stream(run("r", math.MaxUint32, nil)), api.ErrRange},
		{stream(run("r", 1<<31, nil)), api.ErrRange},
		{stream(run("r", 0, make([]float32, 4097))), api.ErrMany},
		{stream(run("r", 0, make([]float32, 65535))), api.ErrMany},
		{stream(with(nan)), api.ErrForm},
		{stream(with(-infinite)), api.ErrForm},
		{stream(with(0.03125)), api.ErrRange},
		{stream(with(1024.0625)), api.ErrRange},
		{stream(run("r", 0, []float32{minusZero, 1024.0625})), api.ErrRange},
		{stream(run("r", api.MaxPlace, []float32{1})), api.ErrLarge},
		{stream(run("r", 0, []float32{0, 0}, span(0, 3))), api.ErrSpan},
		{stream(run("r", 0, []float32{0, 0}, span(65535, 65535))), api.ErrSpan},
		{stream(run("r", 0, []float32{0, 0}, span(0, 1), span(1, 2))), api.ErrOrder},
		{stream(run("r", 0, []float32{0, 1}, span(0, 2))), api.ErrForm},
		{make([]byte, 400000), api.ErrForm},
		{make([]byte, 400001), api.ErrLong},
		{append(slices.Clone(good), make([]byte, 400000-42)...), api.ErrShape},
		{append(slices.Clone(good), make([]byte, 400001-42)...), api.ErrLong},
		{stream(sample.Run{Name: "r", Samples: make([]float32, 65535), Holes: slices.Repeat([]api.Span{span(0, 1)}, 34460)}), api.ErrMany},
	} {
		r, e := sample.Unpack(x.s)
		want(t, "Unpack of another stream", list(i, r, e), list(i, sample.Run{}, x.e))
	}
	r, e := sample.Unpack(good)
	want(t, "Unpack", list(r, e), list(shown(), api.OK))
}

func TestTornStreams(t *testing.T) {
	for i, r := range manyRuns()[:20] {
		s := stream(r)
		if len(s) > 500 {
			continue
		}
		for end := range s {
			got, e := sample.Unpack(s[:end])
			want(t, "Unpack of a torn stream", list(i, end, got, e), list(i, end, sample.Run{}, api.ErrTorn))
		}
		got, e := sample.Unpack(append(bytes.Clone(s), 0))
		want(t, "Unpack of a stream that is too long", list(i, got, e), list(i, sample.Run{}, api.ErrShape))
	}
}
