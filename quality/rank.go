package quality

import (
	"cmp"
	"slices"

	"versine/api"
	"versine/base"
)

// candidate is a section, its index in a list, and the day on which it reaches a limit, or
// never.
type candidate struct {
	Section
	index int
	day   int
}

// compare compares the days of candidates.
func (c candidate) compare(other candidate) int { return cmp.Compare(c.day, other.day) }

// candidateOf returns a section without an error as a candidate.
func candidateOf(s Section, index, limit int) candidate {
	c := candidate{s, index, never}
	if day, e := c.reached(len(c.Acts), limit); e == api.OK {
		c.day = day
	}
	return c
}

func checkSections(l []Section) api.Errno {
	return base.CheckNamed(l, MaxSections, CheckSection, func(s Section) string { return s.Name })
}

// Ranked returns sections by the days on which they reach a limit.
func Ranked(l []Section, limit int) ([]int, api.Errno) {
	if e := base.FirstError(checkSections(l), checkIndex(limit)); e != api.OK {
		return nil, e
	}
	var all []candidate
	for i, s := range l {
		all = append(all, candidateOf(s, i, limit))
	}
	slices.SortStableFunc(all, candidate.compare)
	return base.Mapped(all, func(c candidate) int { return c.index }), api.OK
}
