package play

import "deuce/api"

// day is a day as far as an order of play goes: its number, when each court is free, and when each job ends (0: it is not on this day, or its end matters no more).
type day struct {
	number int
	free   [api.MaxCourts]int
	ends   [api.MaxJobs]int
}

// dayOf returns a day on which nothing has been played.
func (p program) dayOf(number int) day {
	d := day{number: number}
	for court, hours := range p.Days[number] {
		d.free[court] = hours.Low
	}
	return d
}

// put notes when a job on a court ends.
func (d *day) put(job, court, end int) { d.free[court], d.ends[job] = end, end }

// begin returns the minute at which a job begins on a court if it comes next.
func (p program) begin(d day, job, court int) int {
	at := max(d.free[court], p.Jobs[job].Earliest)
	for other, end := range d.ends {
		if end > 0 && p.share[job][other] {
			at = max(at, end+p.Rest)
		}
	}
	return at
}

// run calls a function with the times of each job of an order, if it takes so many minutes.
func (p program) run(order []api.Seat, minutes func(job int) int, note func(job, begin, end int)) {
	var d day
	for i, s := range order {
		if i == 0 || s.Day != d.number {
			d = p.dayOf(s.Day)
		}
		begin := p.begin(d, s.Job, s.Court)
		end := begin + minutes(s.Job)
		d.put(s.Job, s.Court, end)
		note(s.Job, begin, end)
	}
}

// times returns for each job when it can begin, and end. Nothing is earlier because some job takes longer, so it is enough that all take the least minutes, and the greatest.
func (p program) times(order []api.Seat) (begins, ends []api.Span) {
	begins, ends = make([]api.Span, len(order)), make([]api.Span, len(order))
	least := func(job int) int { return p.Jobs[job].Length.Low }
	p.run(order, least, func(job, begin, end int) { begins[job].Low, ends[job].Low = begin, end })
	greatest := func(job int) int { return p.Jobs[job].Length.High }
	p.run(order, greatest, func(job, begin, end int) { begins[job].High, ends[job].High = begin, end })
	return begins, ends
}
