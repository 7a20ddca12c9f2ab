package play_test

import (
	"math/rand/v2"
	"testing"

	"deuce/api"
	"deuce/play"
)

// P8.10: TestWhateverTheyTake: whatever jobs take, they begin and end within Times, and an order that fits ends in time.
func TestWhateverTheyTake(t *testing.T) {
	fitted := 0
	eachProgram(t, 1500, append(shapes(), larger()...), func(t *testing.T, r *rand.Rand, p api.Program) {
		l := randomOrder(r, p)
		if best, e := play.Best(p); e == api.OK && r.IntN(2) == 0 {
			l = best
		}
		if l == nil {
			return
		}
		begins, ends, e := play.Times(p, l)
		fits, _, f := play.Fits(p, l)
		if e != api.OK || f != api.OK {
			t.Fatalf("Times: %d, Fits: %d", e, f)
		}
		if fits {
			fitted++
		}
		for range 20 {
			var minutes []int
			for _, j := range p.Jobs {
				minutes = append(minutes, j.Length.Low+r.IntN(j.Length.High-j.Length.Low+1))
			}
			b, e := timesBy(p, l, minutes)
			checkApart(t, p, l, b, e)
			for job := range p.Jobs {
				if b[job] < begins[job].Low || b[job] > begins[job].High || e[job] < ends[job].Low || e[job] > ends[job].High {
					t.Errorf("%v: %d lasts from %d to %d, Times = %v, %v", l, job, b[job], e[job], begins, ends)
				}
			}
			if late := lateBy(p, l, e); fits && late != -1 {
				t.Errorf("%v fits, but %d ends at %d", l, late, e[late])
			}
		}
	})
	if fitted < 400 {
		t.Errorf("only %d fit", fitted)
	}
}

// roomier returns a program in which something leaves more room, or nothing.
func roomier(r *rand.Rand, p api.Program) api.Program {
	p = copied(p)
	hours := &p.Days[r.IntN(len(p.Days))][r.IntN(len(p.Days[0]))]
	j := &p.Jobs[r.IntN(len(p.Jobs))]
	switch r.IntN(5) {
	case 0:
		hours.High += r.IntN(9)
	case 1:
		hours.Low -= r.IntN(hours.Low + 1)
	case 2:
		p.Rest -= r.IntN(p.Rest + 1)
	case 3:
		j.Length.High -= r.IntN(j.Length.High - j.Length.Low + 1)
	case 4:
		j.Earliest -= r.IntN(j.Earliest + 1)
	}
	return p
}

// P8.13: TestMoreRoom: with more room, an order that fits still fits, and no more days are needed.
func TestMoreRoom(t *testing.T) {
	fewer, now := 0, 0
	eachProgram(t, 2500, append(shapes(), larger()...), func(t *testing.T, r *rand.Rand, p api.Program) {
		q := p
		for range 1 + r.IntN(4) {
			q = roomier(r, q)
		}
		n, e := play.Days(p)
		m, f := play.Days(q)
		if e == api.ErrNone {
			if f == api.OK {
				now++
			}
			return
		}
		if f != api.OK || m > n {
			t.Errorf("Days = %d, %d instead of %d with more room: %+v", m, f, n, q)
		}
		if m < n {
			fewer++
		}
		l, e := play.Best(p)
		if e != api.OK {
			t.Fatalf("Best: %d", e)
		}
		checkFits(t, "with more room", q, l)
	})
	if fewer < 20 || now < 50 {
		t.Errorf("only %d have fewer days, %d have some now", fewer, now)
	}
}

// P8.11, P8.12: TestFirstDay: Stuck is the first day by which no order fits, as Days tells of the jobs that are due by then.
func TestFirstDay(t *testing.T) {
	stuck := 0
	eachProgram(t, 2000, append(shapes(), larger()...), func(t *testing.T, r *rand.Rand, p api.Program) {
		d, e := play.Stuck(p)
		n, f := play.Days(p)
		if e != api.OK || (d == -1) != (f == api.OK) {
			t.Fatalf("Stuck = %d, %d; Days = %d, %d", d, e, n, f)
		}
		if n > 1 {
			q := p
			q.Days = p.Days[:n-1]
			if m, e := play.Days(q); e != api.ErrNone {
				t.Errorf("Days = %d, but with fewer it is %d, %d", n, m, e)
			}
		}
		if d == -1 {
			return
		}
		stuck++
		if n, e := play.Days(dueBy(p, d)); e != api.ErrNone {
			t.Errorf("Stuck = %d, but Days = %d, %d", d, n, e)
		}
		if n, e := play.Days(dueBy(p, d-1)); e != api.OK {
			t.Errorf("Stuck = %d, before it Days = %d, %d", d, n, e)
		}
	})
	if stuck < 300 {
		t.Errorf("only %d are stuck", stuck)
	}
}

// P1, P8.4 to P8.8: TestMost: many jobs with much room, of which the last one fits nowhere.
func TestMost(t *testing.T) {
	for seed := range uint64(30) {
		r := random(seed)
		p := randomProgram(r, shape{api.MaxJobs, api.MaxDays, api.MaxCourts})
		p.Rest = 10 * r.IntN(4)
		for i := range p.Days {
			for court := range p.Days[i] {
				p.Days[i][court] = span(600, 1100)
			}
		}
		var old []api.Seat
		for job := range p.Jobs {
			p.Jobs[job].Length, p.Jobs[job].Due = span(60, 100+r.IntN(100)), 2
			old = append(old, seat(job, 2, 0))
		}
		if n, e := play.Fewest(p, old); n > len(old) || e != api.OK {
			t.Errorf("seed %d: Fewest = %d, %d", seed, n, e)
		}
		p.Jobs[5].Length.High = 501
		if n, e := play.Days(p); n != 0 || e != api.ErrNone {
			t.Errorf("seed %d: Days = %d, %d", seed, n, e)
		}
		if d, e := play.Stuck(p); d != 2 || e != api.OK {
			t.Errorf("seed %d: Stuck = %d, %d", seed, d, e)
		}
		if l, e := play.Repair(p, old); len(l) != 0 || e != api.ErrNone {
			t.Errorf("seed %d: Repair = %v, %d", seed, l, e)
		}
	}
}
