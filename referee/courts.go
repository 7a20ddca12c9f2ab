package referee

import (
	"strconv"

	"deuce/api"
	"deuce/play"
)

// close gives a court new hours on a day.
func (w *work) close(n []int) string {
	days, day, court := w.Register.Days, n[0], n[1]
	hours := api.Span{Low: n[2], High: n[3]}
	if day >= len(days) || court >= len(days[day]) || hours.Low > hours.High || hours.High > api.MaxMinute {
		return no
	}
	days[day][court] = hours
	return yes
}

// planned returns the answer with what a program of all matches that are left tells.
func (w *work) planned(tell func(p api.Program) string) func(n []int) string {
	return func([]int) string {
		left, _, e := play.Jobs(w.Tree, w.Slips, w.Stages)
		if e != api.OK {
			return full
		}
		return tell(api.Program{Days: w.Register.Days, Rest: w.Rest, Jobs: left})
	}
}

// jobs tells how many matches there are to play.
func jobs(p api.Program) string { return strconv.Itoa(len(p.Jobs)) }

// need tells in how many days all can be played.
func need(p api.Program) string {
	days, e := play.Days(p)
	if e != api.OK {
		return never
	}
	return strconv.Itoa(days)
}

// stuck tells by which day not all can be played.
func stuck(p api.Program) string {
	day, _ := play.Stuck(p)
	if day == none {
		return nothing
	}
	return strconv.Itoa(day)
}
