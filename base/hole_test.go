package base_test

import (
	"math"
	"slices"
	"testing"

	"versine/api"
	"versine/base"
)

func holes(ends ...int) []api.Span {
	var l []api.Span
	for i := 0; i < len(ends); i += 2 {
		l = append(l, api.Span{From: ends[i], To: ends[i+1]})
	}
	return l
}

func TestCheckHoles(t *testing.T) {
	for i, x := range []struct {
		values []int
		holes  []api.Span
		e      api.Errno
	}{
		{nil, nil, api.OK},
		{[]int{1, 2}, nil, api.OK},
		{[]int{0, 0}, holes(0, 2), api.OK},
		{[]int{0, 5, 0}, holes(0, 1, 2, 3), api.OK},
		{[]int{0, 0, 0}, holes(0, 1, 1, 2), api.ErrOrder},
		{[]int{0, 0, 0}, holes(1, 3, 0, 1), api.ErrOrder},
		{[]int{0, 0, 0}, holes(0, 1, 1, 1), api.ErrSpan},
		{[]int{0, 0, 0}, holes(0, 2, 1, 2, 5, 9), api.ErrOrder},
		{nil, holes(0, 0), api.ErrSpan},
		{nil, holes(0, 1), api.ErrSpan},
		{[]int{7}, holes(-1, 1), api.ErrSpan},
		{[]int{7}, holes(0, 2), api.ErrSpan},
		{[]int{7}, holes(math.MinInt, math.MaxInt), api.ErrSpan},
		{[]int{7}, holes(math.MaxInt, math.MinInt), api.ErrSpan},
		{[]int{7, 0, 0}, holes(0, 1, 2, 2), api.ErrSpan},
		{[]int{7, 0, 0}, holes(0, 1, 2, 3), api.ErrForm},
		{[]int{0, 0, -1}, holes(0, 1, 2, 3), api.ErrForm},
	} {
		if e := base.CheckHoles(x.values, x.holes); e != x.e {
			t.Errorf("CheckHoles %v: got %v, want %v", i, e, x.e)
		}
	}
	if e := base.CheckHoles([]float32{float32(math.Copysign(0, -1))}, holes(0, 1)); e != api.OK {
		t.Errorf("CheckHoles of -0: got %v", e)
	}
}

func TestHolesOf(t *testing.T) {
	for i, x := range []struct {
		known []bool
		holes []api.Span
	}{
		{nil, nil},
		{[]bool{true, true}, nil},
		{[]bool{false}, holes(0, 1)},
		{[]bool{false, false, true, true, false}, holes(0, 2, 4, 5)},
		{[]bool{true, false, true, false, true}, holes(1, 2, 3, 4)},
	} {
		if got := base.HolesOf(x.known); !slices.Equal(got, x.holes) {
			t.Errorf("HolesOf %v: got %v, want %v", i, got, x.holes)
		}
	}
}

// TestKnownOf checks that HolesOf and KnownOf undo each other.
func TestKnownOf(t *testing.T) {
	for mask := range 1 << 7 {
		var known []bool
		for i := range 7 {
			known = append(known, mask>>i&1 == 1)
		}
		if got := base.KnownOf(7, base.HolesOf(known)); !slices.Equal(got, known) {
			t.Errorf("KnownOf the holes of %v: got %v", known, got)
		}
	}
	if got := base.KnownOf(4, holes(1, 2, 3, 4)); !slices.Equal(got, []bool{true, false, true, false}) {
		t.Errorf("KnownOf: got %v", got)
	}
	if got := base.KnownOf(0, nil); len(got) != 0 {
		t.Errorf("KnownOf nothing: got %v", got)
	}
}

func TestExtended(t *testing.T) {
	var spans []api.Span
	for _, i := range []int{3, 4, 7, 9, 10, 11} {
		spans = base.Extended(spans, i)
	}
	if !slices.Equal(spans, holes(3, 5, 7, 8, 9, 12)) {
		t.Errorf("Extended: got %v", spans)
	}
}
