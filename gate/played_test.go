package gate_test

import (
	"math/rand/v2"
	"testing"

	"deuce/api"
	"deuce/play"
)

// randomProgram returns a program on so many days, with room for some jobs.
func randomProgram(r *rand.Rand, days int) api.Program {
	p := api.Program{Rest: r.IntN(40)}
	courts := 1 + r.IntN(api.MaxCourts)
	for range days {
		var hours []api.Span
		for range courts {
			low := r.IntN(300)
			hours = append(hours, span(low, low+r.IntN(api.MaxMinute+1-low)))
		}
		p.Days = append(p.Days, hours)
	}
	for job := range 1 + r.IntN(api.MaxJobs) {
		low := 1 + r.IntN(150)
		j := api.Job{Length: span(low, low+r.IntN(120)), Due: api.MaxDays - 1, Earliest: r.IntN(200)}
		for other := range job {
			if r.IntN(4) == 0 {
				j.After = append(j.After, other)
			}
		}
		p.Jobs = append(p.Jobs, j)
	}
	return p
}

// lasting returns a program whose jobs take just what a function says.
func lasting(p api.Program, length func(s api.Span) int) api.Program {
	jobs := p.Jobs
	p.Jobs = nil
	for _, j := range jobs {
		n := length(j.Length)
		j.Length = span(n, n)
		p.Jobs = append(p.Jobs, j)
	}
	return p
}

// lengths returns a program with the least lengths, with some that can be, and with the greatest ones.
func lengths(r *rand.Rand, p api.Program) [3]api.Program {
	return [3]api.Program{
		lasting(p, func(s api.Span) int { return s.Low }),
		lasting(p, func(s api.Span) int { return s.Low + r.IntN(s.High-s.Low+1) }),
		lasting(p, func(s api.Span) int { return s.High }),
	}
}

// endsOf returns when the jobs of an order begin and end, if there is just one length for each.
func endsOf(t *testing.T, p api.Program, order []api.Seat) (begins, ends []int) {
	t.Helper()
	b, l, e := play.Times(p, order)
	if e != api.OK {
		t.Fatalf("Times: %d", e)
	}
	for job := range l {
		if b[job].Low != b[job].High || l[job].Low != l[job].High {
			t.Fatalf("Times = %v, %v", b, l)
		}
		begins, ends = append(begins, b[job].Low), append(ends, l[job].Low)
	}
	return begins, ends
}

// eachOrder calls a function with random programs on up to so many days, and orders that fit.
func eachOrder(t *testing.T, times uint64, days int, do func(t *testing.T, r *rand.Rand, p api.Program, order []api.Seat)) {
	t.Helper()
	for seed := range times {
		r := random(seed)
		p := randomProgram(r, 1+r.IntN(days))
		order, e := play.Best(p)
		if e == api.ErrNone {
			continue
		}
		if e != api.OK {
			t.Fatalf("seed %d: Best: %d", seed, e)
		}
		do(t, r, p, order)
		if t.Failed() {
			t.Fatalf("seed %d: %+v, %v", seed, p, order)
		}
	}
}

// playedOf returns how many minutes are played on each court of each day; these are what tickets are for.
func playedOf(t *testing.T, p api.Program, order []api.Seat) []int {
	t.Helper()
	courts := len(p.Days[0])
	out := make([]int, len(p.Days)*courts)
	begins, ends := endsOf(t, p, order)
	for _, s := range order {
		out[s.Day*courts+s.Court] += ends[s.Job] - begins[s.Job]
	}
	return out
}

// P0.8: TestRainCheck: if the minutes that were played are those of an order of play, each ticket is refunded between what it is for the greatest and for the least lengths.
func TestRainCheck(t *testing.T) {
	between, differ := 0, 0
	eachOrder(t, 400, api.MaxDays, func(t *testing.T, r *rand.Rand, p api.Program, order []api.Seat) {
		short := r.IntN(300)
		x := api.Terms{Short: short, Long: short + r.IntN(300)}
		var l []api.Ticket
		for id := range api.MaxGroups {
			price := r.IntN(2000)
			l = append(l, ticket(id, price, r.IntN(len(p.Days)*len(p.Days[0])), r.IntN(price+1)*r.IntN(2)))
		}
		var refunds [3][]int
		for i, p := range lengths(r, p) {
			x.Played = playedOf(t, p, order)
			refunds[i] = refundsOf(t, x, l)
		}
		for i, k := range l {
			most, now, least := refunds[0][i], refunds[1][i], refunds[2][i]
			if least > now || now > most {
				t.Errorf("%v is refunded %d, but %d for the greatest and %d for the least lengths", k, now, least, most)
			}
			between++
			count(&differ, least < most)
		}
	})
	if between < 4000 || differ < 500 {
		t.Errorf("only %d tickets, and %d differ", between, differ)
	}
}

// minuteIn returns a minute of Enter: that of who is never in is behind all others.
func minuteIn(minute int) int {
	if minute == -1 {
		return api.MaxMinute + 1
	}
	return minute
}

// P0.9: TestSeatsBehindMatch: if seats become free when matches end, and no group gives up, each group is in between the minutes for the least and for the greatest lengths.
func TestSeatsBehindMatch(t *testing.T) {
	between, differ, never := 0, 0, 0
	eachOrder(t, 500, 1, func(t *testing.T, r *rand.Rand, p api.Program, order []api.Seat) {
		q := randomQueue(r, 20)
		for i := range q.Groups {
			q.Groups[i].At, q.Groups[i].Quits = r.IntN(api.MaxMinute+1), -1
		}
		q.Open = r.IntN(400)
		var counts []int
		for range p.Jobs {
			counts = append(counts, r.IntN(20))
		}
		for rate := q.Rate.Low; rate <= q.Rate.High; rate++ {
			var minutes [3][]int
			for i, p := range lengths(r, p) {
				_, ends := endsOf(t, p, order)
				q.Frees = nil
				for job, minute := range ends {
					q.Frees = append(q.Frees, free(minute, counts[job]))
				}
				minutes[i] = enterOf(t, q, rate)
			}
			for group, p := range q.Groups {
				first, now, last := minuteIn(minutes[0][group]), minuteIn(minutes[1][group]), minuteIn(minutes[2][group])
				if first > now || now > last {
					t.Errorf("%v is in at %d, but at %d for the least and %d for the greatest lengths", p, now, first, last)
				}
				between++
				count(&differ, first < last)
				count(&never, first > api.MaxMinute)
			}
		}
	})
	if between < 4000 || differ < 500 || never < 200 {
		t.Errorf("only %d groups, %d differ, %d are never in", between, differ, never)
	}
}
