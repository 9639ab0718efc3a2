package quality_test

import (
	"slices"
	"strings"
	"testing"

	"versine/api"
	"versine/quality"
)

// TestCheckSection checks sections without an error, and with each one.
func TestCheckSection(t *testing.T) {
	for i, s := range []quality.Section{
		north(), section("a", nil), section(strings.Repeat("Z", 24), manyMeasured(32), manyActs(16)...),
		only(0, 0), only(100000, 100000), only(0, 100000, 1, 0, 100000, 5), section("a", nil, act(0, "a")), section("a", nil, act(100000, strings.Repeat("k", 24))),
		section("a", measured(5, 5), act(5, "same"), act(6, "same")),
	} {
		want(t, "CheckSection", list(i, quality.CheckSection(s)), list(i, api.OK))
	}
	for i, b := range badSections() {
		want(t, "CheckSection", list(i, quality.CheckSection(b.x)), list(i, b.e))
	}
	// Each measurement, and each intervention, is examined.
	for i := range 32 {
		s := section("a", manyMeasured(32))
		s.Measured[i].Index = -1
		want(t, "CheckSection of a bad index", list(i, quality.CheckSection(s)), list(i, api.ErrRange))
		if i > 0 {
			s.Measured[i] = measurement(s.Measured[i-1].Day, 5)
			want(t, "CheckSection of the same day", list(i, quality.CheckSection(s)), list(i, api.ErrOrder))
		}
	}
	for i := range 16 {
		s := section("a", manyMeasured(32), manyActs(16)...)
		s.Acts[i].Kind = "-"
		want(t, "CheckSection of a bad kind", list(i, quality.CheckSection(s)), list(i, api.ErrKind))
		if i > 0 {
			s.Acts[i] = s.Acts[i-1]
			want(t, "CheckSection of the same day", list(i, quality.CheckSection(s)), list(i, api.ErrOrder))
		}
	}
}

// TestMeasured checks that a measurement comes to the end, also before an intervention.
func TestMeasured(t *testing.T) {
	for i, x := range []struct {
		s, later quality.Section
		m        quality.Measurement
	}{
		{section("a", nil), section("a", measured(0, 0)), measurement(0, 0)},
		{section("a", nil, acts(5)...), section("a", measured(3, 7), acts(5)...), measurement(3, 7)},
		{section("a", measured(3, 7), acts(5)...), section("a", measured(3, 7, 5, 9), acts(5)...), measurement(5, 9)},
		{section("a", measured(3, 7), acts(5, 9)...), section("a", measured(3, 7, 4, 100000), acts(5, 9)...), measurement(4, 100000)},
		{section("a", measured(99999, 7)), section("a", measured(99999, 7, 100000, 0)), measurement(100000, 0)},
		{section("a", manyMeasured(31)), section("a", manyMeasured(32)), measurement(93, 310)},
	} {
		s, e := quality.Measured(x.s, x.m)
		want(t, "Measured", list(i, s, e), list(i, x.later, api.OK))
	}
}

// TestDone checks that an intervention comes to the end, behind all measurements.
func TestDone(t *testing.T) {
	for i, x := range []struct {
		s, later quality.Section
		a        quality.Act
	}{
		{section("a", nil), section("a", nil, acts(0)...), act(0, "tamping")},
		{section("a", measured(4, 4)), section("a", measured(4, 4), act(5, "x_1")), act(5, "x_1")},
		{section("a", measured(4, 4), acts(9)...), section("a", measured(4, 4), act(9, "tamping"), act(10, "b")), act(10, "b")},
		{section("a", measured(4, 4), acts(2)...), section("a", measured(4, 4), act(2, "tamping"), act(100000, "tamping")), act(100000, "tamping")},
		{section("a", nil, manyActs(15)...), section("a", nil, manyActs(16)...), act(75, "n15")},
	} {
		s, e := quality.Done(x.s, x.a)
		want(t, "Done", list(i, s, e), list(i, x.later, api.OK))
	}
}

// TestSectionsGrow checks that the days of measurements and interventions may come in any order that has no error, and that no others may.
func TestSectionsGrow(t *testing.T) {
	g := source(10)
	right, wrong := 0, 0
	for range 300 {
		s := section("a", nil)
		day := 0
		for range 30 {
			day = max(day+between(g, -2, 9), 0)
			lastMeasured, lastAct := -1, -1
			if n := len(s.Measured); n > 0 {
				lastMeasured = s.Measured[n-1].Day
			}
			if n := len(s.Acts); n > 0 {
				lastAct = s.Acts[n-1].Day
			}
			var next quality.Section
			var e, wanted api.Errno
			if isAct := g.IntN(3) == 0; isAct {
				next, e = quality.Done(s, act(day, "a"))
				switch {
				case len(s.Acts) == 16:
					wanted = api.ErrMany
				case day <= lastAct:
					wanted = api.ErrOrder
				case day <= lastMeasured:
					wanted = api.ErrOver
				}
			} else {
				next, e = quality.Measured(s, measurement(day, day))
				switch {
				case len(s.Measured) == 32:
					wanted = api.ErrMany
				case day <= lastMeasured:
					wanted = api.ErrOrder
				}
			}
			want(t, "the error of a growing section", list(s, day, e), list(s, day, wanted))
			if e != api.OK {
				wrong++
				continue
			}
			right++
			want(t, "CheckSection of a growing section", list(next, quality.CheckSection(next)), list(next, api.OK))
			want(t, "the length of a growing section", list(len(next.Measured)+len(next.Acts)), list(len(s.Measured)+len(s.Acts)+1))
			s = next
		}
	}
	if right < 1000 || wrong < 500 {
		t.Errorf("too few days: %v and %v", right, wrong)
	}
}

// TestPeriods checks example 2, and where empty periods lie.
func TestPeriods(t *testing.T) {
	for i, x := range []struct {
		s quality.Section
		l []api.Span
	}{
		{north(), []api.Span{span(0, 3), span(3, 6)}},
		{section("a", nil), []api.Span{span(0, 0)}},
		{section("a", nil, acts(5, 6)...), []api.Span{span(0, 0), span(0, 0), span(0, 0)}},
		{only(1, 1, 2, 2), []api.Span{span(0, 2)}},
		{section("a", measured(5, 1), acts(5)...), []api.Span{span(0, 0), span(0, 1)}}, // on the day of an intervention: after it
		{section("a", measured(5, 1), acts(6)...), []api.Span{span(0, 1), span(1, 1)}},
		{section("a", measured(5, 1), acts(4)...), []api.Span{span(0, 0), span(0, 1)}},
		{section("a", measured(0, 1, 10, 1, 20, 1, 30, 1, 40, 1, 50, 1), acts(20, 21, 60)...), []api.Span{span(0, 2), span(2, 3), span(3, 6), span(6, 6)}},
		{section("a", measured(5, 1, 8, 1), acts(0, 1, 6, 7, 9, 10)...), []api.Span{span(0, 0), span(0, 0), span(0, 1), span(1, 1), span(1, 2), span(2, 2), span(2, 2)}},
		{section("a", manyMeasured(32), acts(100000)...), []api.Span{span(0, 32), span(32, 32)}},
		{section("a", manyMeasured(32), acts(0)...), []api.Span{span(0, 0), span(0, 32)}},
	} {
		l, e := quality.Periods(x.s)
		want(t, "Periods", list(i, l, e), list(i, x.l, api.OK))
	}
}

// TestPeriodsByDefinition checks that each measurement is in the period that its day says, and that spans touch.
func TestPeriodsByDefinition(t *testing.T) {
	g := source(11)
	empty := 0
	for range 1500 {
		s := someSection(g, 32, 16, between(g, 1, 60), 100)
		l, e := quality.Periods(s)
		want(t, "how many periods", list(s, len(l), e), list(s, len(s.Acts)+1, api.OK))
		end := 0
		for k, p := range l {
			if p.From != end || p.To < p.From || p.To > len(s.Measured) {
				t.Fatalf("the periods of %v: got %v", s, l)
			}
			if m := s.Measured[p.From:p.To]; !slices.Equal(m, periodOf(s, k)) {
				t.Errorf("the period %v of %v: got %v", k, s, m)
			}
			if end = p.To; p.From == p.To {
				empty++
			}
		}
		want(t, "the end of the periods", list(s, end), list(s, len(s.Measured)))
	}
	if empty < 500 {
		t.Errorf("too few periods are empty: %v", empty)
	}
}
