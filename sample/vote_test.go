package sample_test

import (
	"slices"
	"testing"

	"versine/api"
	"versine/sample"
)

func TestVotes(t *testing.T) {
	for i, x := range []struct {
		l     [3]int
		limit float32
		vote  int
		wrong [3]int
	}{
		{[3]int{256, 264, 320}, 1, 264, [3]int{0, 0, 1}},
		{[3]int{0, 32, 64}, 1, unknown, [3]int{}},
		{[3]int{16, 32, unknown}, 1, 24, [3]int{}},
		{[3]int{64, 0, 32}, 2, 32, [3]int{}},
		{[3]int{64, 0, 32}, 1.9375, unknown, [3]int{}},
		{[3]int{64, 0, 31}, 1.9375, 31, [3]int{1, 0, 0}},
		{[3]int{0, 64, 33}, 1.9375, 33, [3]int{1, 0, 0}},
		{[3]int{0, 0, 0}, 0, 0, [3]int{}},
		{[3]int{5, 5, 6}, 0, 5, [3]int{0, 0, 1}},
		{[3]int{5, 6, 5}, 0, 5, [3]int{0, 1, 0}},
		{[3]int{-144, 80, 80}, 0, 80, [3]int{1, 0, 0}},
		{[3]int{5, 6, 7}, 0, unknown, [3]int{}},
		{[3]int{unknown, 1, 2}, 0.0625, 2, [3]int{}},
		{[3]int{unknown, -1, -2}, 0.0625, -1, [3]int{}},
		{[3]int{unknown, -2, -1}, 0.0625, -1, [3]int{}},
		{[3]int{0, unknown, -1}, 0.0625, 0, [3]int{}},
		{[3]int{-4, unknown, 1}, 1, -1, [3]int{}},
		{[3]int{3, 4, unknown}, 0, unknown, [3]int{}},
		{[3]int{4, 4, unknown}, 0, 4, [3]int{}},
		{[3]int{unknown, 0, 17}, 1, unknown, [3]int{}},
		{[3]int{unknown, 17, 0}, 1, unknown, [3]int{}},
		{[3]int{5, unknown, unknown}, 1024, unknown, [3]int{}},
		{[3]int{unknown, 5, unknown}, 1024, unknown, [3]int{}},
		{[3]int{unknown, unknown, 5}, 1024, unknown, [3]int{}},
		{[3]int{unknown, unknown, unknown}, 1024, unknown, [3]int{}},
		{[3]int{16384, -16384, unknown}, 1024, unknown, [3]int{}},
		{[3]int{16384, 0, unknown}, 1024, 8192, [3]int{}},
		{[3]int{16384, 16384, -16384}, 1024, 16384, [3]int{0, 0, 1}},
		{[3]int{-16384, 16384, 0}, 1024, 0, [3]int{}},
		{[3]int{1, 2, 3}, minusZero, unknown, [3]int{}},
	} {
		l := [3]sample.Run{made("u", 7, x.l[0]), made("v", 7, x.l[1]), made("w", 7, x.l[2])}
		v, wrong, e := sample.Voted(l, x.limit)
		want(t, "Voted", list(i, v, wrong, e), list(i, made("u", 7, x.vote), x.wrong, api.OK))
	}
	for _, n := range []int{0, 1, 4096} {
		l := [3]sample.Run{hidden("u", 9, n), hidden("v", 9, n), hidden("w", 9, n)}
		if n == 0 {
			l = [3]sample.Run{run("u", 9, nil), run("v", 9, nil), run("w", 9, nil)}
		}
		v, wrong, e := sample.Voted(l, 1)
		want(t, "Voted by runs that know nothing", list(n, v, wrong, e), list(n, l[0], [3]int{}, api.OK))
	}
}

// voted is the vote of three integers as the chapter defines it.
func voted(l [3]int, limit int) int {
	var known []int
	for _, n := range l {
		if n != unknown {
			known = append(known, n)
		}
	}
	slices.Sort(known)
	switch {
	case len(known) == 3 && (known[1]-known[0] <= limit || known[2]-known[1] <= limit):
		return known[1]
	case len(known) == 2 && known[1]-known[0] <= limit:
		return nearest(known[0]+known[1], 2)
	}
	return unknown
}

func TestAllSmallVotes(t *testing.T) {
	values := []int{unknown, -4, -3, -2, -1, 0, 1, 2, 3, 4}
	for limit := range 9 {
		var l [3][]int
		var votes []int
		var wrong [3]int
		for _, a := range values {
			for _, b := range values {
				for _, c := range values {
					v := voted([3]int{a, b, c}, limit)
					votes = append(votes, v)
					for k, n := range []int{a, b, c} {
						l[k] = append(l[k], n)
						if n != unknown && v != unknown && (n-v > limit || v-n > limit) {
							wrong[k]++
						}
					}
				}
			}
		}
		runs := [3]sample.Run{made("a", 3, l[0]...), made("b", 3, l[1]...), made("c", 3, l[2]...)}
		v, counts, e := sample.Voted(runs, float32(limit)/16)
		want(t, "Voted", list(limit, v, counts, e), list(limit, made("a", 3, votes...), wrong, api.OK))
	}
}

func TestVoteErrors(t *testing.T) {
	good, later, longer := made("a", 0, 1), made("a", 1, 1), made("a", 0, 1, 1)
	for i, x := range []struct {
		l     [3]sample.Run
		limit float32
		e     api.Errno
	}{
		{[3]sample.Run{later, good, good}, 1, api.ErrShape},
		{[3]sample.Run{good, later, good}, 1, api.ErrShape},
		{[3]sample.Run{good, good, later}, 1, api.ErrShape},
		{[3]sample.Run{longer, good, good}, 1, api.ErrShape},
		{[3]sample.Run{good, longer, good}, 1, api.ErrShape},
		{[3]sample.Run{good, good, longer}, nan, api.ErrShape},
		{[3]sample.Run{good, longer, {}}, nan, api.ErrName},
		{[3]sample.Run{good, {Name: "b", First: -1}, {}}, nan, api.ErrRange},
		{[3]sample.Run{{Name: "a", First: -1}, {}, good}, nan, api.ErrRange},
		{[3]sample.Run{{}, {Name: "b", First: -1}, good}, nan, api.ErrName},
		{[3]sample.Run{good, good, good}, nan, api.ErrForm},
		{[3]sample.Run{good, good, good}, infinite, api.ErrForm},
		{[3]sample.Run{good, good, good}, -infinite, api.ErrForm},
		{[3]sample.Run{good, good, good}, 0.03125, api.ErrRange},
		{[3]sample.Run{good, good, good}, 1024.0625, api.ErrRange},
		{[3]sample.Run{good, good, good}, -0.0625, api.ErrRange},
		{[3]sample.Run{good, good, good}, -1024, api.ErrRange},
	} {
		v, wrong, e := sample.Voted(x.l, x.limit)
		want(t, "Voted", list(i, v, wrong, e), list(i, sample.Run{}, [3]int{}, x.e))
	}
	for i, x := range badRuns() {
		for k := range 3 {
			l := [3]sample.Run{later, good, longer}
			l[k] = x.r
			v, wrong, e := sample.Voted(l, nan)
			want(t, "Voted", list(i, k, v, wrong, e), list(i, k, sample.Run{}, [3]int{}, x.e))
		}
	}
}
