package play_test

import (
	"math/rand/v2"
	"slices"
	"testing"

	"deuce/api"
	"deuce/play"
)

func span(low, high int) api.Span { return api.Span{Low: low, High: high} }

func seat(job, day, court int) api.Seat { return api.Seat{Job: job, Day: day, Court: court} }

// example is G of the chapter's examples.
func example() api.Program {
	return api.Program{
		Days: [][]api.Span{{span(600, 900), span(600, 780)}, {span(600, 800), span(600, 600)}},
		Rest: 30,
		Jobs: []api.Job{
			{Length: span(60, 120), Due: 1},
			{Length: span(60, 100), Due: 1},
			{Length: span(90, 150), After: []int{0, 1}, Due: 1},
		},
	}
}

// with returns the example with something changed.
func with(change func(p *api.Program)) api.Program {
	p := example()
	change(&p)
	return p
}

// short is H of the chapter's examples.
func short() api.Program { return with(func(p *api.Program) { p.Days[0][0].High = 890 }) }

// order is O of the chapter's examples.
func order() []api.Seat { return []api.Seat{seat(0, 0, 0), seat(1, 0, 1), seat(2, 0, 0)} }

// copied returns a program that shares no memory with another one.
func copied(p api.Program) api.Program {
	p.Days, p.Jobs = slices.Clone(p.Days), slices.Clone(p.Jobs)
	for i := range p.Days {
		p.Days[i] = slices.Clone(p.Days[i])
	}
	for i := range p.Jobs {
		p.Jobs[i].After, p.Jobs[i].With = slices.Clone(p.Jobs[i].After), slices.Clone(p.Jobs[i].With)
	}
	return p
}

// number is a number, or an error.
type number struct {
	n int
	e api.Errno
}

// random returns a source of the same numbers for the same seed.
func random(seed uint64) *rand.Rand { return rand.New(rand.NewPCG(seed, 8)) }

// shape is how many jobs, days, and courts there are.
type shape struct{ jobs, days, courts int }

// shapes is shapes with all orders of which it can be done in a test.
func shapes() []shape {
	return []shape{
		{1, 1, 1}, {1, 3, 3}, {2, 2, 2}, {2, 3, 1}, {3, 1, 3}, {3, 2, 2}, {3, 3, 2}, {3, 3, 3},
		{4, 1, 2}, {4, 2, 1}, {4, 2, 2}, {4, 2, 3}, {4, 3, 1}, {4, 3, 2}, {5, 1, 2}, {5, 2, 1}, {5, 3, 1}, {6, 1, 1}, {6, 2, 1},
	}
}

// larger is shapes of which few tests can have all orders.
func larger() []shape { return []shape{{4, 3, 3}, {5, 2, 2}, {5, 1, 3}, {6, 1, 2}, {6, 3, 1}} }

// randomProgram returns a program of a shape, with hours of which some are too short. Minutes are few, so that different orders take the same time now and then.
func randomProgram(r *rand.Rand, s shape) api.Program {
	p := api.Program{Rest: []int{0, 1, 2, 5, 20}[r.IntN(5)]}
	need := 7*s.jobs/(s.days*s.courts) + r.IntN(12)
	opening, lasting := 1+r.IntN(6), 1+r.IntN(9)
	for range s.days {
		var courts []api.Span
		for range s.courts {
			low := r.IntN(opening)
			courts = append(courts, span(low, low+max(0, need+r.IntN(lasting)-4)))
		}
		p.Days = append(p.Days, courts)
	}
	shared, early, due := r.IntN(5), r.IntN(4), r.IntN(4)
	for job := range s.jobs {
		low := 1 + r.IntN(8)
		j := api.Job{Length: span(low, low+r.IntN(4)), Due: api.MaxDays - 1}
		if r.IntN(5) < due {
			j.Due = r.IntN(api.MaxDays)
		}
		if r.IntN(5) < early {
			j.Earliest = r.IntN(15)
		}
		for other := range s.jobs {
			if other < job && r.IntN(12) < shared {
				j.After = append(j.After, other)
			}
			if other != job && r.IntN(18) < shared {
				j.With = append(j.With, other)
			}
		}
		p.Jobs = append(p.Jobs, j)
	}
	return p
}

// randomOrder returns some order of play; there is none if a job that is due must wait for one that cannot be played by then.
func randomOrder(r *rand.Rand, p api.Program) []api.Seat {
	var out []api.Seat
	done, day := map[int]bool{}, 0
	for len(out) < len(p.Jobs) {
		var ready []int
		for job, j := range p.Jobs {
			if !done[job] && !slices.ContainsFunc(j.After, func(other int) bool { return !done[other] }) {
				ready = append(ready, job)
			}
		}
		job := ready[r.IntN(len(ready))]
		last := min(p.Jobs[job].Due, len(p.Days)-1)
		if last < day {
			return nil
		}
		if r.IntN(3) == 0 {
			day += r.IntN(last - day + 1)
		}
		done[job] = true
		out = append(out, seat(job, day, r.IntN(len(p.Days[0]))))
	}
	return out
}

// eachProgram calls a function with random programs of shapes.
func eachProgram(t *testing.T, times uint64, shapes []shape, do func(t *testing.T, r *rand.Rand, p api.Program)) {
	t.Helper()
	for seed := range times {
		r := random(seed)
		p := randomProgram(r, shapes[int(seed)%len(shapes)])
		if e := play.Check(p); e != api.OK {
			t.Fatalf("seed %d: Check of %+v: %d", seed, p, e)
		}
		do(t, r, p)
		if t.Failed() {
			t.Fatalf("seed %d: %+v", seed, p)
		}
	}
}

// shareBy reports whether two jobs share players.
func shareBy(p api.Program, a, b int) bool {
	in := func(a, b int) bool { return slices.Contains(p.Jobs[a].After, b) || slices.Contains(p.Jobs[a].With, b) }
	return in(a, b) || in(b, a)
}

// isOrderBy reports whether seats are an order of play by the chapter's words.
func isOrderBy(p api.Program, order []api.Seat) bool {
	if len(order) != len(p.Jobs) {
		return false
	}
	for job := range p.Jobs {
		if !slices.ContainsFunc(order, func(s api.Seat) bool { return s.Job == job }) {
			return false
		}
	}
	for i, s := range order {
		if s.Day < 0 || s.Day >= len(p.Days) || s.Day > p.Jobs[s.Job].Due || s.Court < 0 || s.Court >= len(p.Days[s.Day]) {
			return false
		}
		if slices.ContainsFunc(order[:i], func(o api.Seat) bool { return s.Day < o.Day }) {
			return false
		}
		for _, other := range p.Jobs[s.Job].After {
			if !slices.ContainsFunc(order[:i], func(o api.Seat) bool { return o.Job == other }) {
				return false
			}
		}
	}
	return true
}

// timesBy returns when jobs begin and end in an order, by the chapter's words, if each takes so many minutes.
func timesBy(p api.Program, order []api.Seat, minutes []int) (begins, ends []int) {
	begins, ends = make([]int, len(p.Jobs)), make([]int, len(p.Jobs))
	for i, s := range order {
		court := p.Days[s.Day][s.Court].Low
		rested := 0
		for _, o := range order[:i] {
			if o.Day == s.Day && o.Court == s.Court {
				court = ends[o.Job]
			}
			if o.Day == s.Day && shareBy(p, o.Job, s.Job) {
				rested = max(rested, ends[o.Job]+p.Rest)
			}
		}
		begins[s.Job] = max(court, p.Jobs[s.Job].Earliest, rested)
		ends[s.Job] = begins[s.Job] + minutes[s.Job]
	}
	return begins, ends
}

// lateBy returns the job of the first seat that ends after the closing of its court, -1 if there is none.
func lateBy(p api.Program, order []api.Seat, ends []int) int {
	for _, s := range order {
		if ends[s.Job] > p.Days[s.Day][s.Court].High {
			return s.Job
		}
	}
	return -1
}

// longest returns the most minutes of all jobs.
func longest(p api.Program) []int {
	var out []int
	for _, j := range p.Jobs {
		out = append(out, j.Length.High)
	}
	return out
}

// eachMinutes calls a function with all that the jobs can take.
func eachMinutes(p api.Program, do func(minutes []int)) {
	minutes := make([]int, len(p.Jobs))
	var choose func(job int)
	choose = func(job int) {
		if job == len(p.Jobs) {
			do(minutes)
			return
		}
		for n := p.Jobs[job].Length.Low; n <= p.Jobs[job].Length.High; n++ {
			minutes[job] = n
			choose(job + 1)
		}
	}
	choose(0)
}

// eachOrder calls a function with all orders of play.
func eachOrder(p api.Program, do func(order []api.Seat)) {
	var choose func(order []api.Seat, day int)
	choose = func(order []api.Seat, day int) {
		if len(order) == len(p.Jobs) {
			do(order)
			return
		}
		seated := func(job int) bool {
			return slices.ContainsFunc(order, func(s api.Seat) bool { return s.Job == job })
		}
		for job, j := range p.Jobs {
			if seated(job) || slices.ContainsFunc(j.After, func(other int) bool { return !seated(other) }) {
				continue
			}
			for d := day; d < len(p.Days) && d <= j.Due; d++ {
				for court := range p.Days[d] {
					choose(append(order, seat(job, d, court)), d)
				}
			}
		}
	}
	choose(nil, 0)
}

// eachFitting calls a function with all orders of play that fit, and returns how many there are.
func eachFitting(p api.Program, do func(order []api.Seat)) int {
	minutes, count := longest(p), 0
	eachOrder(p, func(order []api.Seat) {
		if _, ends := timesBy(p, order, minutes); lateBy(p, order, ends) == -1 {
			count++
			do(order)
		}
	})
	return count
}

// daysOf returns below which day an order has days.
func daysOf(order []api.Seat) int {
	n := 0
	for _, s := range order {
		n = max(n, s.Day+1)
	}
	return n
}

// movesOf returns how many jobs have another day or court than in other seats.
func movesOf(order, old []api.Seat) int {
	n := 0
	for _, s := range order {
		for _, o := range old {
			if s.Job == o.Job && (s.Day != o.Day || s.Court != o.Court) {
				n++
			}
		}
	}
	return n
}

// checkFits checks that seats are an order of play that fits.
func checkFits(t *testing.T, name string, p api.Program, order []api.Seat) {
	t.Helper()
	if !isOrderBy(p, order) {
		t.Fatalf("%s: %v is not an order of play", name, order)
	}
	if _, ends := timesBy(p, order, longest(p)); lateBy(p, order, ends) != -1 {
		t.Errorf("%s: %v ends at %v, too late", name, order, ends)
	}
	if fits, job, e := play.Fits(p, order); !fits || job != -1 || e != api.OK {
		t.Errorf("%s: Fits of %v = %v, %d, %d", name, order, fits, job, e)
	}
}

// dueBy returns the program of the jobs that are due by a day, with all that must be played before them, by the chapter's words.
func dueBy(p api.Program, day int) api.Program {
	var stay []int
	var add func(job int)
	add = func(job int) {
		if !slices.Contains(stay, job) {
			stay = append(stay, job)
		}
		for _, other := range p.Jobs[job].After {
			add(other)
		}
	}
	for job, j := range p.Jobs {
		if j.Due <= day {
			add(job)
		}
	}
	slices.Sort(stay)
	renumbered := func(l []int) []int {
		var out []int
		for _, job := range l {
			if i := slices.Index(stay, job); i != -1 {
				out = append(out, i)
			}
		}
		return out
	}
	out := api.Program{Days: p.Days, Rest: p.Rest}
	for _, job := range stay {
		j := p.Jobs[job]
		j.After, j.With = renumbered(j.After), renumbered(j.With)
		out.Jobs = append(out.Jobs, j)
	}
	return out
}
