package sample_test

import (
	"slices"
	"strconv"
	"strings"
	"testing"

	"versine/api"
	"versine/sample"
)

// written is the text of a run, sample by sample.
func written(r sample.Run) string {
	s := "run " + r.Name + " " + strconv.Itoa(r.First)
	l := integers(r)
	for i := 0; i < len(l); {
		if l[i] != unknown {
			if i == 0 || l[i-1] == unknown {
				s += "\nsamples"
			}
			s += " " + strconv.Itoa(l[i])
			i++
			continue
		}
		from := i
		for i < len(l) && l[i] == unknown {
			i++
		}
		s += "\nhole " + strconv.Itoa(i-from)
	}
	return s + "\n"
}

func TestPrint(t *testing.T) {
	for i, x := range []struct {
		r sample.Run
		s string
	}{
		{shown(), "run r 100\nsamples 16 32\nhole 2\nsamples 80\n"},
		{run("a", 0, nil), "run a 0\n"},
		{hidden("a", 7, 3), "run a 7\nhole 3\n"},
		{made("B_9", 100000000-5, unknown, 0, -1, 16384, unknown), "run B_9 99999995\nhole 1\nsamples 0 -1 16384\nhole 1\n"},
		{made("a", 0, -16384, unknown, 5), "run a 0\nsamples -16384\nhole 1\nsamples 5\n"},
		{run("a", 0, []float32{minusZero}), "run a 0\nsamples 0\n"},
	} {
		s, e := sample.Print(x.r)
		want(t, "Print", list(i, s, e), list(i, x.s, api.OK))
	}
	for i, r := range manyRuns() {
		s, e := sample.Print(r)
		want(t, "Print", list(i, s, e), list(i, written(r), api.OK))
		back, line, e := sample.Parse(s)
		want(t, "Parse of Print", list(i, back, line, e), list(i, r, 0, api.OK))
		_, line, e = sample.Parse(s[:len(s)-1])
		want(t, "Parse without the last byte", list(i, line, e), list(i, strings.Count(s, "\n")-1, api.ErrSyntax))
	}
	for i, x := range badRuns() {
		s, e := sample.Print(x.r)
		want(t, "Print of no run", list(i, s, e), list(i, "", x.e))
	}
}

func TestParse(t *testing.T) {
	for _, x := range []struct {
		s string
		r sample.Run
	}{
		{"run r 100\nsamples 16 32\nhole 2\nsamples 80\n", shown()},
		{"run a 0\n", run("a", 0, nil)},
		{"run run 0\n", run("run", 0, nil)},
		{"run hole 1\nhole 1\n", hidden("hole", 1, 1)},
		{"run a 100000000\n", run("a", 100000000, nil)},
		{"run a 99999999\nsamples 0\n", made("a", 99999999, 0)},
		{"run a 0\nsamples -16384 16384 0 -1 10 -10\n", made("a", 0, -16384, 16384, 0, -1, 10, -10)},
		{"run a 0\nhole 4096\n", hidden("a", 0, 4096)},
		{"run a 0\nhole 4095\nsamples 1\n", made("a", 0, append(slices.Repeat([]int{unknown}, 4095), 1)...)},
		{"run a 0\nsamples" + strings.Repeat(" 7", 4096) + "\n", made("a", 0, slices.Repeat([]int{7}, 4096)...)},
		{"run a 0\n" + strings.Repeat("hole 1\nsamples 5\n", 2048), made("a", 0, slices.Repeat([]int{unknown, 5}, 2048)...)},
	} {
		r, line, e := sample.Parse(x.s)
		want(t, "Parse of "+x.s, list(r, line, e), list(x.r, 0, api.OK))
	}
}

func TestParseErrors(t *testing.T) {
	for _, x := range []struct {
		s    string
		line int
		e    api.Errno
	}{
		{"", 0, api.ErrSyntax},
		{"\n", 0, api.ErrSyntax},
		{" ", 0, api.ErrSyntax},
		{"run", 0, api.ErrSyntax},
		{"run a 0", 0, api.ErrSyntax},
		{"run a 0\r\n", 0, api.ErrSyntax},
		{"run\n", 0, api.ErrSyntax},
		{"run a\n", 0, api.ErrSyntax},
		{"run 0\n", 0, api.ErrSyntax},
		{"run  0\n", 0, api.ErrSyntax},
		{"run a b\n", 0, api.ErrSyntax},
		{"run a 0 \n", 0, api.ErrSyntax},
		{"run a 0 0\n", 0, api.ErrSyntax},
		{"run a  0\n", 0, api.ErrSyntax},
		{"run a b 0\n", 0, api.ErrSyntax},
		{" run a 0\n", 0, api.ErrSyntax},
		{"\nrun a 0\n", 0, api.ErrSyntax},
		{"Run a 0\n", 0, api.ErrSyntax},
		{"run\ta\t0\n", 0, api.ErrSyntax},
		{"run a -1\n", 0, api.ErrSyntax},
		{"run a -0\n", 0, api.ErrSyntax},
		{"run a +1\n", 0, api.ErrSyntax},
		{"run a 00\n", 0, api.ErrSyntax},
		{"run a 01\n", 0, api.ErrSyntax},
		{"run a 1_0\n", 0, api.ErrSyntax},
		{"run a 1234567890\n", 0, api.ErrSyntax},
		{"run a 99999999999999999999\n", 0, api.ErrSyntax},
		{"run a \uff11\n", 0, api.ErrSyntax},
		{"hole 1\n", 0, api.ErrSyntax},
		{"samples 1\n", 0, api.ErrSyntax},
		{"x\nrun a 0\n", 0, api.ErrSyntax},
		{"run a 0\n\n", 1, api.ErrSyntax},
		{"run a 0\n ", 1, api.ErrSyntax},
		{"run a 0\nx\n", 1, api.ErrSyntax},
		{"run a 0\nrun a 0\n", 1, api.ErrSyntax},
		{"run a 0\nhole 1\nrun a 0\n", 2, api.ErrSyntax},
		{"run a 0\nhole\n", 1, api.ErrSyntax},
		{"run a 0\nhole \n", 1, api.ErrSyntax},
		{"run a 0\nhole 0\n", 1, api.ErrSyntax},
		{"run a 0\nhole -1\n", 1, api.ErrSyntax},
		{"run a 0\nhole 01\n", 1, api.ErrSyntax},
		{"run a 0\nhole 1 2\n", 1, api.ErrSyntax},
		{"run a 0\nhole 1 \n", 1, api.ErrSyntax},
		{"run a 0\nhole  1\n", 1, api.ErrSyntax},
		{"run a 0\nhole x\n", 1, api.ErrSyntax},
		{"run a 0\nhole 1234567890\n", 1, api.ErrSyntax},
		{"run a 0\nHole 1\n", 1, api.ErrSyntax},
		{"run a 0\nholes 1\n", 1, api.ErrSyntax},
		{"run a 0\nhole 1\nhole 1\n", 2, api.ErrSyntax},
		{"run a 0\nhole 1\nsamples 1\nhole 1\nhole 1\n", 4, api.ErrSyntax},
		{"run a 0\nsamples\n", 1, api.ErrSyntax},
		{"run a 0\nsamples \n", 1, api.ErrSyntax},
		{"run a 0\nsamples 1 \n", 1, api.ErrSyntax},
		{"run a 0\nsamples 1  2\n", 1, api.ErrSyntax},
		{"run a 0\nsamples  1\n", 1, api.ErrSyntax},
		{"run a 0\nsample 1\n", 1, api.ErrSyntax},
		{"run a 0\nsamples 1 01\n", 1, api.ErrSyntax},
		{"run a 0\nsamples 00\n", 1, api.ErrSyntax},
		{"run a 0\nsamples -0\n", 1, api.ErrSyntax},
		{"run a 0\nsamples -01\n", 1, api.ErrSyntax},
		{"run a 0\nsamples --1\n", 1, api.ErrSyntax},
		{"run a 0\nsamples -\n", 1, api.ErrSyntax},
		{"run a 0\nsamples +1\n", 1, api.ErrSyntax},
		{"run a 0\nsamples 1.5\n", 1, api.ErrSyntax},
		{"run a 0\nsamples 0x1\n", 1, api.ErrSyntax},
		{"run a 0\nsamples 1-1\n", 1, api.ErrSyntax},
		{"run a 0\nsamples 1 x 2\n", 1, api.ErrSyntax},
		{"run a 0\nsamples -1234567890\n", 1, api.ErrSyntax},
		{"run a 0\nsamples 1\nsamples 1\n", 2, api.ErrSyntax},
		{"run a 0\nsamples 1\nhole 1", 2, api.ErrSyntax},
		{"run a 0\nsamples 1", 1, api.ErrSyntax},
		{"run a 0\nsamples 1\n\xff\n", 2, api.ErrSyntax},
		{"run a 0\nhole 999999999\nsamples 99999\nhole 0\n", 3, api.ErrSyntax},
		{"run 9 0\nhole 5000\nsamples 1", 2, api.ErrSyntax},
		{"run a 0\nsamples x\nsamples 1\n", 1, api.ErrSyntax},

		{"run a 0\nhole 4097\n", 2, api.ErrMany},
		{"run a 0\nhole 4096\nsamples 1\n", 3, api.ErrMany},
		{"run a 0\nhole 999999999\n", 2, api.ErrMany},
		{"run a 0\n" + strings.Repeat("hole 999999999\nsamples 1\n", 300), 601, api.ErrMany},
		{"run a 0\nsamples" + strings.Repeat(" 7", 4097) + "\n", 2, api.ErrMany},
		{"run 9 999999999\nhole 4096\nsamples 16385\n", 3, api.ErrMany},
		{"run a 0\nsamples 16385\n", 2, api.ErrLarge},
		{"run a 0\nsamples -16385\n", 2, api.ErrLarge},
		{"run a 0\nsamples 1 999999999 2\nhole 1\n", 3, api.ErrLarge},
		{"run a 0\nsamples -999999999\n", 2, api.ErrLarge},
		{"run a 0\nsamples 1\nhole 1\nsamples 2 16385\n", 4, api.ErrLarge},
		{"run 9 999999999\nsamples 16385\n", 2, api.ErrLarge},
		{"run 9 0\n", 1, api.ErrName},
		{"run a\tb 0\n", 1, api.ErrName},
		{"run - 0\n", 1, api.ErrName},
		{"run \x00 0\n", 1, api.ErrName},
		{"run 9 999999999\nhole 1\n", 2, api.ErrName},
		{"run " + strings.Repeat("a", 25) + " 0\n", 1, api.ErrName},
		{"run a 100000001\n", 1, api.ErrRange},
		{"run a 999999999\nhole 1\nsamples 1\n", 3, api.ErrRange},
		{"run a 100000000\nhole 1\n", 2, api.ErrLarge},
		{"run a 99999999\nhole 1\nsamples 3\n", 3, api.ErrLarge},

		{strings.Repeat("x", 1000000), 0, api.ErrSyntax},
		{strings.Repeat("x", 1000001), 0, api.ErrLong},
		{"run a 0\n" + strings.Repeat("x", 999992), 1, api.ErrSyntax},
		{"run a 0\n" + strings.Repeat("x", 999993), 0, api.ErrLong},
	} {
		r, line, e := sample.Parse(x.s)
		want(t, "Parse of "+x.s[:min(len(x.s), 60)], list(r, line, e), list(sample.Run{}, x.line, x.e))
	}
}
