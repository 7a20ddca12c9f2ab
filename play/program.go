package play

import (
	"slices"

	"deuce/api"
)

// program is a program that has been checked, and which of its jobs share players.
type program struct {
	api.Program
	share [api.MaxJobs][api.MaxJobs]bool
}

// open returns a program that is checked now.
func open(p api.Program) (program, api.Errno) {
	if !validProgram(p) {
		return program{}, api.ErrProgram
	}
	c := program{Program: p}
	for job, j := range p.Jobs {
		for _, other := range slices.Concat(j.After, j.With) {
			c.share[job][other], c.share[other][job] = true, true
		}
	}
	return c, api.OK
}

// openOrder returns a program that is checked now with an order of play.
func openOrder(p api.Program, order []api.Seat) (program, api.Errno) {
	c, e := open(p)
	if e != api.OK {
		return program{}, e
	}
	if !c.isOrder(order) {
		return program{}, api.ErrOrder
	}
	return c, api.OK
}

// openOld returns a program that is checked now with seats that its jobs had once.
func openOld(p api.Program, old []api.Seat) (program, api.Errno) {
	c, e := open(p)
	if e != api.OK {
		return program{}, e
	}
	if !c.seatsAll(old, api.MaxDays, api.MaxCourts) {
		return program{}, api.ErrOrder
	}
	return c, api.OK
}

func within(n, low, high int) bool { return low <= n && n <= high }

// inside reports whether a span is not empty, and from low to high at most.
func inside(s api.Span, low, high int) bool { return low <= s.Low && s.Low <= s.High && s.High <= high }

func validLength(s api.Span) bool { return inside(s, 1, api.MaxLength) }

func validDue(day int) bool { return within(day, 0, api.MaxDays-1) }

func validProgram(p api.Program) bool {
	return validDays(p.Days) && within(p.Rest, 0, api.MaxRest) && validJobs(p.Jobs)
}

func validDays(days [][]api.Span) bool {
	if !within(len(days), 1, api.MaxDays) || !within(len(days[0]), 1, api.MaxCourts) {
		return false
	}
	invalid := func(hours api.Span) bool { return !inside(hours, 0, api.MaxMinute) }
	for _, courts := range days {
		if len(courts) != len(days[0]) || slices.ContainsFunc(courts, invalid) {
			return false
		}
	}
	return true
}

func validJobs(jobs []api.Job) bool {
	if len(jobs) > api.MaxJobs {
		return false
	}
	for job, j := range jobs {
		others := ascending(j.With, len(jobs)) && !slices.Contains(j.With, job)
		if !others || !ascending(j.After, job) || !validLength(j.Length) || !validDue(j.Due) || !within(j.Earliest, 0, api.MaxMinute) {
			return false
		}
	}
	return true
}

// ascending reports whether numbers are strictly ascending, from 0, and below a limit.
func ascending(numbers []int, limit int) bool {
	least := 0
	for _, n := range numbers {
		if !within(n, least, limit-1) {
			return false
		}
		least = n + 1
	}
	return true
}

// validStages reports whether stages are as many as rounds, and like jobs.
func validStages(stages []api.Stage, rounds int) bool {
	invalid := func(s api.Stage) bool { return !validLength(s.Length) || !validDue(s.Due) }
	return len(stages) == rounds && !slices.ContainsFunc(stages, invalid)
}

// seatsAll reports whether seats are for each job, once, with days and courts below limits.
func (p program) seatsAll(seats []api.Seat, days, courts int) bool {
	if len(seats) != len(p.Jobs) {
		return false
	}
	var seated [api.MaxJobs]bool
	for _, s := range seats {
		if !within(s.Job, 0, len(p.Jobs)-1) || seated[s.Job] || !within(s.Day, 0, days-1) || !within(s.Court, 0, courts-1) {
			return false
		}
		seated[s.Job] = true
	}
	return true
}

// isOrder reports whether seats are an order of play.
func (p program) isOrder(seats []api.Seat) bool {
	if !p.seatsAll(seats, len(p.Days), len(p.Days[0])) {
		return false
	}
	var seated [api.MaxJobs]bool
	waits := func(job int) bool { return !seated[job] }
	day := 0
	for _, s := range seats {
		j := p.Jobs[s.Job]
		if !within(s.Day, day, j.Due) || slices.ContainsFunc(j.After, waits) {
			return false
		}
		seated[s.Job], day = true, s.Day
	}
	return true
}
