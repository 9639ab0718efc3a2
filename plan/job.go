package plan

import (
	"versine/api"
	"versine/base"
)

// weld is the kind of jobs for which a day may be too warm.
const weld = "weld"

// kinds is all kinds of jobs.
var kinds = [3]string{"tamp", "grind", weld}

func isKind(kind string) bool {
	for _, k := range kinds {
		if k == kind {
			return true
		}
	}
	return false
}

// set is a set of the at most MaxJobs jobs of a site: a bit for each index.
type set uint8

func (s set) has(job int) bool { return s>>job&1 == 1 }

func (s set) with(job int) set { return s | 1<<job }

// isIn reports whether another set has all jobs of this one.
func (s set) isIn(other set) bool { return s&^other == 0 }

// site is jobs, with those that each of them needs.
type site struct {
	jobs  []Job
	needs []set
}

// siteOf returns the site of at most MaxJobs jobs, which need no others than these.
func siteOf(l []Job) site {
	indices := map[string]int{}
	for i, j := range l {
		indices[j.Name] = i
	}
	return site{l, base.Mapped(l, func(j Job) set {
		var needs set
		for _, name := range j.After {
			needs = needs.with(indices[name])
		}
		return needs
	})}
}

// all returns the set of all jobs.
func (x site) all() set {
	var all set
	for job := range x.jobs {
		all = all.with(job)
	}
	return all
}

// hasCycle reports whether a job needs itself: not all jobs can be done one after the other.
func (x site) hasCycle() bool {
	var done set
	for range x.jobs {
		for job, needs := range x.needs {
			if needs.isIn(done) {
				done = done.with(job)
			}
		}
	}
	return done != x.all()
}

// checkNeeds returns the first error of the names of jobs that a job needs, or OK.
func checkNeeds(names base.Names, after []string) api.Errno {
	seen := base.Names{}
	return base.CheckEach(after, func(name string) api.Errno {
		return base.FirstError(base.ErrorIf(!names[name], api.ErrUnknown), seen.CheckNext(name))
	})
}

// CheckJobs returns the first error of jobs, or OK.
func CheckJobs(l []Job) api.Errno {
	if len(l) > MaxJobs {
		return api.ErrMany
	}
	names := base.Names{}
	e := base.CheckEach(l, func(j Job) api.Errno {
		return base.FirstError(
			checkName(j.Name),
			names.CheckNext(j.Name),
			base.ErrorIf(!isKind(j.Kind), api.ErrKind),
			base.ErrorIf(len(j.After) > MaxJobs, api.ErrMany),
		)
	})
	if e != api.OK {
		return e
	}
	return base.FirstError(
		base.CheckEach(l, func(j Job) api.Errno { return checkNeeds(names, j.After) }),
		base.ErrorIf(siteOf(l).hasCycle(), api.ErrCycle),
	)
}

// longest returns the first one of the longest chains that begin with a job that may be the
// first one.
func (x site) longest(mayBegin func(job int) bool) []string {
	var longest []string
	for job, j := range x.jobs {
		if !mayBegin(job) {
			continue
		}
		behind := x.longest(func(next int) bool { return x.needs[next].has(job) })
		if len(behind)+1 > len(longest) {
			longest = append([]string{j.Name}, behind...)
		}
	}
	return longest
}

// Chain returns the longest chain of jobs, each of which needs the one before it.
func Chain(l []Job) ([]string, api.Errno) {
	if e := base.FirstError(CheckJobs(l), base.ErrorIf(len(l) == 0, api.ErrNone)); e != api.OK {
		return nil, e
	}
	return siteOf(l).longest(func(int) bool { return true }), api.OK
}
