package plan

import (
	"slices"

	"versine/api"
	"versine/base"
)

// open is the day of a job that is not decided yet.
const open = -1

// calendar is a site with the temperatures of its days, and the greatest one at which a rail
// is welded.
type calendar struct {
	site
	heats []int
	most  int
}

// checkCalendar returns the first error of jobs, of days' temperatures and of a band, or OK.
func checkCalendar(l []Job, heats []int, band api.Interval) api.Errno {
	return base.FirstError(
		CheckJobs(l),
		base.ErrorIf(len(heats) == 0, api.ErrEmpty),
		base.ErrorIf(len(heats) > MaxDays, api.ErrMany),
		base.CheckEach(heats, checkHeat),
		checkBand(band),
	)
}

// isWarm reports whether a day is too warm for a job.
func (c calendar) isWarm(job, day int) bool { return c.jobs[job].Kind == weld && c.heats[day] > c.most }

// checkJob returns the first error of a job on its day, or OK.
func (c calendar) checkJob(job int, days []int) api.Errno {
	isEarly, isTwice := false, false
	for other, day := range days {
		isEarly = isEarly || c.needs[job].has(other) && day >= days[job]
		isTwice = isTwice || other < job && day == days[job] && c.jobs[other].Kind == c.jobs[job].Kind
	}
	return base.FirstError(
		base.ErrorIf(isEarly, api.ErrOrder),
		base.ErrorIf(isTwice, api.ErrTwice),
		base.ErrorIf(c.isWarm(job, days[job]), api.ErrBand),
	)
}

// CheckSequence returns the last day of a sequence.
func CheckSequence(l []Job, heats []int, band api.Interval, days []int) (int, api.Errno) {
	e := base.FirstError(
		checkCalendar(l, heats, band),
		base.ErrorIf(len(days) != len(l), api.ErrShape),
		base.CheckEach(days, func(day int) api.Errno {
			return base.ErrorIf(day < 0 || day >= len(heats), api.ErrUnknown)
		}),
	)
	if e != api.OK {
		return 0, e
	}
	c, last := calendar{siteOf(l), heats, band.High}, 0
	for job, day := range days {
		if e := c.checkJob(job, days); e != api.OK {
			return 0, e
		}
		last = max(last, day)
	}
	return last, api.OK
}

// mayDo reports whether a job may be done on a day behind those that were done before, where
// the days that are not open are decided.
func (c calendar) mayDo(job, day int, done set, days []int) bool {
	isDay := days[job] == open || days[job] == day
	return isDay && !done.has(job) && c.needs[job].isIn(done) && !c.isWarm(job, day)
}

// after returns the sets of jobs that may be done at the end of a day, if one was done before.
func (c calendar) after(day int, done set, days []int) []set {
	sets := []set{done}
	for _, kind := range kinds { // at most one job of each is done on a day
		for _, s := range sets { // of which none has a job of this kind yet
			for job, j := range c.jobs {
				if j.Kind == kind && c.mayDo(job, day, done, days) {
					sets = append(sets, s.with(job))
				}
			}
		}
	}
	return sets
}

// canEnd reports whether there is a sequence up to a last day, with the days that are decided.
func (c calendar) canEnd(last int, days []int) bool {
	reached := [1 << MaxJobs]bool{0: true}
	for day := range last + 1 {
		for i, isReached := range reached { // as it was at the beginning of the day
			if !isReached {
				continue
			}
			for _, s := range c.after(day, set(i), days) {
				reached[s] = true
			}
		}
	}
	return reached[c.all()]
}

// best returns the best sequence, and its last day, or ErrInfeasible.
func (c calendar) best() ([]int, int, api.Errno) {
	days, last := slices.Repeat([]int{open}, len(c.jobs)), 0
	for ; !c.canEnd(last, days); last++ {
		if last == len(c.heats)-1 {
			return nil, 0, api.ErrInfeasible
		}
	}
search:
	for job := range c.jobs {
		for day := range last + 1 {
			decided := slices.Clone(days)
			decided[job] = day
			if c.canEnd(last, decided) {
				days = decided
				continue search // it is the first day that the job can have
			}
		}
	}
	return days, last, api.OK
}

// Sequenced returns the best sequence, and its last day.
func Sequenced(l []Job, heats []int, band api.Interval) ([]int, int, api.Errno) {
	if e := checkCalendar(l, heats, band); e != api.OK {
		return nil, 0, e
	}
	return calendar{siteOf(l), heats, band.High}.best()
}
