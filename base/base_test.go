package base_test

import (
	"slices"
	"strings"
	"testing"

	"versine/api"
	"versine/base"
)

func TestFirstError(t *testing.T) {
	for i, x := range []struct {
		errors []api.Errno
		e      api.Errno
	}{
		{nil, api.OK},
		{[]api.Errno{api.OK, api.OK}, api.OK},
		{[]api.Errno{api.OK, api.ErrSpan, api.ErrName}, api.ErrSpan},
		{[]api.Errno{api.ErrName, api.OK, api.ErrSpan}, api.ErrName},
	} {
		if e := base.FirstError(x.errors...); e != x.e {
			t.Errorf("FirstError %v: got %v, want %v", i, e, x.e)
		}
	}
	if base.ErrorIf(true, api.ErrName) != api.ErrName || base.ErrorIf(false, api.ErrName) != api.OK {
		t.Error("ErrorIf")
	}
}

func TestCheckBetween(t *testing.T) {
	for n, e := range map[int]api.Errno{-4: api.ErrRange, -3: api.OK, 0: api.OK, 2: api.OK, 3: api.ErrRange} {
		if got := base.CheckBetween(n, -3, 2); got != e {
			t.Errorf("CheckBetween of %v: got %v, want %v", n, got, e)
		}
	}
}

func TestCheckInterval(t *testing.T) {
	for i, x := range []struct {
		low, high int
		e         api.Errno
	}{
		{-3, 2, api.OK}, {0, 0, api.OK}, {-3, -3, api.OK}, {2, 2, api.OK},
		{-4, 2, api.ErrRange}, {-3, 3, api.ErrRange}, {3, -4, api.ErrRange}, {3, 2, api.ErrRange}, {1, -4, api.ErrRange},
		{2, -3, api.ErrOrder}, {1, 0, api.ErrOrder},
	} {
		if e := base.CheckInterval(api.Interval{Low: x.low, High: x.high}, -3, 2); e != x.e {
			t.Errorf("CheckInterval %v: got %v, want %v", i, e, x.e)
		}
	}
}

// TestCheckEach checks that nothing behind the first error is examined.
func TestCheckEach(t *testing.T) {
	var examined []int
	check := func(n int) api.Errno {
		examined = append(examined, n)
		return api.Errno(n)
	}
	if e := base.CheckEach([]int{0, 0, 5, 7}, check); e != 5 || !slices.Equal(examined, []int{0, 0, 5}) {
		t.Errorf("CheckEach: got %v for %v", e, examined)
	}
	if e := base.CheckEach(nil, check); e != api.OK {
		t.Errorf("CheckEach of nothing: got %v", e)
	}
}

// TestCheckNext checks that a name that was seen twice is seen a third time, too.
func TestCheckNext(t *testing.T) {
	seen, other := base.Names{}, base.Names{}
	var errors []api.Errno
	for _, name := range []string{"a", "", "a", "A", "", "a"} {
		errors = append(errors, seen.CheckNext(name))
	}
	if wanted := []api.Errno{api.OK, api.OK, api.ErrTwice, api.OK, api.ErrTwice, api.ErrTwice}; !slices.Equal(errors, wanted) {
		t.Errorf("CheckNext: got %v, want %v", errors, wanted)
	}
	if e := other.CheckNext("a"); e != api.OK {
		t.Errorf("CheckNext of others: got %v", e)
	}
}

// TestCheckNamed checks it of names, of which the empty one has an error of its own.
func TestCheckNamed(t *testing.T) {
	check := func(name string) api.Errno { return base.ErrorIf(name == "", api.ErrName) }
	for i, x := range []struct {
		names []string
		e     api.Errno
	}{
		{nil, api.OK},
		{[]string{"a", "b", "A"}, api.OK},
		{[]string{"a", "b", "c", "d"}, api.ErrMany},
		{[]string{"", "", "", ""}, api.ErrMany},
		{[]string{"a", "b", "a"}, api.ErrTwice},
		{[]string{"a", "a", ""}, api.ErrTwice},
		{[]string{"", "a", "a"}, api.ErrName},
		{[]string{"a", "", ""}, api.ErrName},
	} {
		if e := base.CheckNamed(x.names, 3, check, strings.Clone); e != x.e {
			t.Errorf("CheckNamed %v: got %v, want %v", i, e, x.e)
		}
	}
}

func TestMapped(t *testing.T) {
	l := []int{3, 0, 2}
	got := base.Mapped(l, func(n int) string { return "abc"[:n] })
	if !slices.Equal(got, []string{"abc", "", "ab"}) || !slices.Equal(l, []int{3, 0, 2}) {
		t.Errorf("Mapped: got %q of %v", got, l)
	}
}
