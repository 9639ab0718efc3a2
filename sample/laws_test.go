package sample_test

import (
	"math/rand/v2"
	"slices"
	"testing"

	"versine/api"
	"versine/sample"
)

// backwards returns integers in the opposite order.
func backwards(l []int) []int {
	l = slices.Clone(l)
	slices.Reverse(l)
	return l
}

func TestReversedTwice(t *testing.T) {
	for i, r := range manyRuns() {
		once, e1 := sample.Reversed(r)
		twice, e2 := sample.Reversed(once)
		want(t, "Reversed", list(i, once, e1), list(i, made(r.Name, r.First, backwards(integers(r))...), api.OK))
		want(t, "Reversed twice", list(i, twice, e2), list(i, r, api.OK))
	}
}

// TestReversedResults checks that what is done to a reversed run is the reversed result.
func TestReversedResults(t *testing.T) {
	for i, r := range manyRuns() {
		back, _ := sample.Reversed(r)
		agree := func(what string, a, b sample.Run, e, f api.Errno) {
			t.Helper()
			if e == api.OK {
				a, _ = sample.Reversed(a)
			}
			want(t, what, list(i, a, e), list(i, b, f))
		}
		for _, most := range []int{0, 1, 2, 3, 4096} {
			a, e := sample.Filled(r, most)
			b, f := sample.Filled(back, most)
			agree("Filled", a, b, e, f)
		}
		for _, num := range []int{-1000, -3, -1, 0, 1, 2, 5} {
			a, e := sample.Scaled(r, num, 4)
			b, f := sample.Scaled(back, num, 4)
			agree("Scaled", a, b, e, f)
		}
		a, e := sample.Sum(r, r)
		b, f := sample.Sum(back, back)
		agree("Sum", a, b, e, f)
		for step := 1; step <= 3; step++ {
			if len(r.Samples)%step == 1%step {
				a, e := sample.Thinned(r, step)
				b, f := sample.Thinned(back, step)
				agree("Thinned", a, b, e, f)
			}
		}
		want(t, "counts", counts(r), counts(back))
	}
}

// counts returns what does not depend on the direction of a run.
func counts(r sample.Run) []any {
	n, e := sample.Known(r)
	k, f := sample.Energy(r)
	m, g := sample.Mean(r)
	return list(n, e, k, f, m, g)
}

func TestReversedParts(t *testing.T) {
	g := source(8)
	for range 300 {
		l := append(someIntegers(g, 10, 9), 1)
		n, first := len(l), g.IntN(50)
		from := g.IntN(n)
		to := from + 1 + g.IntN(n-from)
		back, _ := sample.Reversed(made("a", first, l...))
		a, _ := sample.Cropped(made("a", first, l...), span(first+from, first+to))
		b, _ := sample.Cropped(back, span(first+n-to, first+n-from))
		want(t, "Cropped", list(l, from, to, integers(b)), list(l, from, to, backwards(integers(a))))
		gap := g.IntN(4)
		c := someIntegers(g, 5, 9)
		whole, _ := sample.Joined(made("a", 0, l...), made("c", n+gap, c...))
		turned, _ := sample.Joined(made("a", 0, backwards(c)...), made("c", len(c)+gap, backwards(l)...))
		want(t, "Joined", list(l, gap, c, integers(turned)), list(l, gap, c, backwards(integers(whole))))
	}
}

func TestPartsJoined(t *testing.T) {
	for i, r := range manyRuns() {
		n := len(r.Samples)
		for cut := 1; cut < n; cut += 1 + n/16 {
			a, e1 := sample.Cropped(r, span(r.First, r.First+cut))
			b, e2 := sample.Cropped(r, span(r.First+cut, r.First+n))
			whole, e := sample.Joined(a, b)
			want(t, "Joined parts", list(i, cut, whole, e1, e2, e), list(i, cut, r, api.OK, api.OK, api.OK))
		}
	}
}

// TestFilledOnlyBetween checks that a hole is filled only between known samples, and that what is known stays.
func TestFilledOnlyBetween(t *testing.T) {
	for i, r := range manyRuns() {
		for _, most := range []int{0, 1, 2, 5, 4096} {
			s, e := sample.Filled(r, most)
			if e != api.OK || len(s.Samples) != len(r.Samples) {
				t.Errorf("Filled of the run %v: got %v, %v", i, s, e)
				continue
			}
			before, after := integers(r), integers(s)
			for k, n := range before {
				if n != unknown && after[k] != n {
					t.Errorf("Filled of the run %v, index %v: got %v, want %v", i, k, after[k], n)
				}
			}
			for _, h := range r.Holes {
				isBetween := h.From > 0 && h.To < len(before)
				for k := h.From; k < h.To; k++ {
					if isFilled := after[k] != unknown; isFilled != (isBetween && h.To-h.From <= most) {
						t.Errorf("Filled of the run %v, index %v, up to %v: got %v", i, k, most, after[k])
					} else if isFilled {
						a, b := before[h.From-1], before[h.To]
						want(t, "Filled between", list(i, k, after[k] >= min(a, b), after[k] <= max(a, b)), list(i, k, true, true))
					}
				}
			}
		}
	}
}

// TestVoteLaws checks that a vote is known where all three runs agree, is the same in each order of the runs, and lies between two of them.
func TestVoteLaws(t *testing.T) {
	g := source(9)
	for range 500 {
		var l [3][]int
		for range g.IntN(20) {
			n := g.IntN(30)
			for k := range l {
				l[k] = append(l[k], n+g.IntN(1+g.IntN(20)))
				if g.IntN(4) == 0 {
					l[k][len(l[k])-1] = unknown
				}
			}
		}
		runs := [3]sample.Run{made("a", 5, l[0]...), made("a", 5, l[1]...), made("a", 5, l[2]...)}
		limit := float32(g.IntN(10)) / 16
		v, wrong, e := sample.Voted(runs, limit)
		for _, o := range [][3]int{{0, 2, 1}, {1, 0, 2}, {1, 2, 0}, {2, 0, 1}, {2, 1, 0}} {
			v2, wrong2, e2 := sample.Voted([3]sample.Run{runs[o[0]], runs[o[1]], runs[o[2]]}, limit)
			want(t, "Voted in another order", list(l, limit, o, v2, wrong2, e2), list(l, limit, o, v, [3]int{wrong[o[0]], wrong[o[1]], wrong[o[2]]}, e))
		}
		for i, n := range integers(v) {
			checkVote(t, [3]int{l[0][i], l[1][i], l[2][i]}, n)
		}
	}
}

func checkVote(t *testing.T, l [3]int, vote int) {
	t.Helper()
	if l[0] != unknown && l[0] == l[1] && l[0] == l[2] && vote != l[0] {
		t.Errorf("the vote of %v: got %v", l, vote)
	}
	isBetween := vote == unknown
	for i, a := range l {
		for _, b := range l[i+1:] {
			isBetween = isBetween || a != unknown && b != unknown && min(a, b) <= vote && vote <= max(a, b)
		}
	}
	if !isBetween {
		t.Errorf("the vote of %v is not between: got %v", l, vote)
	}
}

// plainPacket returns a packet in whose frame the byte Mark stands only at the beginning.
func plainPacket(g *rand.Rand) (sample.Packet, []byte) {
	for {
		p := somePacket(g)
		f, _ := sample.Encode(p)
		if !slices.Contains(f[1:], sample.Mark) {
			return p, f[:]
		}
	}
}

// plainByte returns a byte other than Mark.
func plainByte(g *rand.Rand) byte {
	b := byte(g.IntN(255))
	if b >= sample.Mark {
		b++
	}
	return b
}

func TestAllGoodFramesAreReceived(t *testing.T) {
	g := source(10)
	for range 300 {
		var s []byte
		var sent []sample.Packet
		var skipped []api.Span
		skip := func(l ...byte) {
			if k := len(skipped); k > 0 && skipped[k-1].To == len(s) && len(l) > 0 {
				skipped[k-1].To += len(l)
			} else if len(l) > 0 {
				skipped = append(skipped, span(len(s), len(s)+len(l)))
			}
			s = append(s, l...)
		}
		for range g.IntN(20) {
			p, f := plainPacket(g)
			switch g.IntN(4) {
			case 0: // a byte is another one
				at := 1 + g.IntN(19)
				was := f[at]
				for f[at] == was {
					f[at] = plainByte(g)
				}
				skip(f...)
			case 1: // bytes are missing
				at := g.IntN(20)
				skip(append(f[:at:at], f[at+1+g.IntN(20-at):]...)...)
			case 2: // bytes are too many
				for range 1 + g.IntN(30) {
					skip(plainByte(g))
				}
			default:
				s = append(s, f...)
				sent = append(sent, p)
			}
		}
		l, spans, e := sample.Received(s)
		want(t, "Received", list(s, l, spans, e), list(s, sent, skipped, api.OK))
	}
}

// TestTextsAndStreamsComeBack checks both ways: of runs, and of texts and streams that somebody else wrote.
func TestTextsAndStreamsComeBack(t *testing.T) {
	for i, r := range manyRuns() {
		s, e1 := sample.Pack(r)
		fromStream, e2 := sample.Unpack(s)
		u, e3 := sample.Print(r)
		fromText, line, e4 := sample.Parse(u)
		want(t, "a run that comes back", list(i, e1, fromStream, e2, e3, fromText, line, e4), list(i, api.OK, r, api.OK, api.OK, r, 0, api.OK))
		u, e := sample.Print(fromStream)
		want(t, "a text of a stream", list(i, u, e), list(i, written(r), api.OK))
		s, e = sample.Pack(fromText)
		want(t, "a stream of a text", list(i, s, e), list(i, stream(r), api.OK))
	}
}
