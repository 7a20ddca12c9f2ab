package play_test

import (
	"math/rand/v2"
	"slices"
	"testing"

	"deuce/api"
	"deuce/play"
)

// P8.2, P8.3: TestTimes: when jobs begin and end, and whether an order fits.
func TestTimes(t *testing.T) {
	early := with(func(p *api.Program) { p.Jobs[0].Earliest, p.Jobs[1].Earliest = 630, 500 })
	apart := with(func(p *api.Program) { p.Jobs[0].With, p.Jobs[2].After = []int{1}, nil })
	tight := with(func(p *api.Program) { p.Rest, p.Days[0][0].High = 0, 870 })
	opens := with(func(p *api.Program) { p.Days[0][1], p.Days[1][1] = span(700, 1440), span(590, 1440) })
	for name, x := range map[string]struct {
		p            api.Program
		order        []api.Seat
		begins, ends []api.Span
		job          int
	}{
		"G and O":            {example(), order(), []api.Span{span(600, 600), span(600, 600), span(690, 750)}, []api.Span{span(660, 720), span(660, 700), span(780, 900)}, -1},
		"H and O":            {short(), order(), []api.Span{span(600, 600), span(600, 600), span(690, 750)}, []api.Span{span(660, 720), span(660, 700), span(780, 900)}, 2},
		"no rest":            {tight, order(), []api.Span{span(600, 600), span(600, 600), span(660, 720)}, []api.Span{span(660, 720), span(660, 700), span(750, 870)}, -1},
		"Earliest":           {early, order(), []api.Span{span(630, 630), span(600, 600), span(720, 780)}, []api.Span{span(690, 750), span(660, 700), span(810, 930)}, 2},
		"one court":          {example(), []api.Seat{seat(1, 0, 0), seat(0, 0, 0), seat(2, 1, 0)}, []api.Span{span(660, 700), span(600, 600), span(600, 600)}, []api.Span{span(720, 820), span(660, 700), span(690, 750)}, -1},
		"With":               {apart, []api.Seat{seat(1, 0, 1), seat(0, 0, 0), seat(2, 0, 1)}, []api.Span{span(690, 730), span(600, 600), span(660, 700)}, []api.Span{span(750, 850), span(660, 700), span(750, 850)}, 2},
		"With, on days":      {apart, []api.Seat{seat(2, 0, 0), seat(1, 0, 1), seat(0, 1, 0)}, []api.Span{span(600, 600), span(600, 600), span(600, 600)}, []api.Span{span(660, 720), span(660, 700), span(690, 750)}, -1},
		"another opening":    {opens, []api.Seat{seat(0, 0, 1), seat(1, 0, 0), seat(2, 1, 1)}, []api.Span{span(700, 700), span(600, 600), span(590, 590)}, []api.Span{span(760, 820), span(660, 700), span(680, 740)}, -1},
		"two too late":       {example(), []api.Seat{seat(1, 1, 1), seat(0, 1, 1), seat(2, 1, 1)}, []api.Span{span(660, 700), span(600, 600), span(750, 850)}, []api.Span{span(720, 820), span(660, 700), span(840, 1000)}, 1},
		"two too late, back": {example(), []api.Seat{seat(0, 1, 1), seat(1, 1, 1), seat(2, 1, 1)}, []api.Span{span(600, 600), span(660, 720), span(750, 850)}, []api.Span{span(660, 720), span(720, 820), span(840, 1000)}, 0},
	} {
		begins, ends, e := play.Times(x.p, x.order)
		if !slices.Equal(begins, x.begins) || !slices.Equal(ends, x.ends) || e != api.OK {
			t.Errorf("%s: Times = %v, %v, %d", name, begins, ends, e)
		}
		if fits, job, e := play.Fits(x.p, x.order); fits != (x.job == -1) || job != x.job || e != api.OK {
			t.Errorf("%s: Fits = %v, %d, %d", name, fits, job, e)
		}
	}
}

// P8.2: TestMinutes: an order goes on behind midnight, and jobs of other days wait for nobody.
func TestMinutes(t *testing.T) {
	p := api.Program{Days: slices.Repeat([][]api.Span{{span(1440, 1440)}}, 3), Rest: 600}
	for job := range 6 {
		j := api.Job{Length: span(1, 600), Due: 2, Earliest: 1440}
		for other := range job {
			j.After = append(j.After, other)
		}
		p.Jobs = append(p.Jobs, j)
	}
	begins, ends, e := play.Times(p, []api.Seat{seat(0, 0, 0), seat(1, 0, 0), seat(2, 0, 0), seat(3, 0, 0), seat(4, 0, 0), seat(5, 2, 0)})
	wanted := []api.Span{span(1440, 1440), span(2041, 2640), span(2642, 3840), span(3243, 5040), span(3844, 6240), span(1440, 1440)}
	if !slices.Equal(begins, wanted) || ends[4] != span(3845, 6840) || ends[5] != span(1441, 2040) || e != api.OK {
		t.Errorf("Times = %v, %v, %d", begins, ends, e)
	}
}

// add makes a span greater, so that it has a number.
func add(s api.Span, n int) api.Span {
	if s == (api.Span{}) {
		return span(n, n)
	}
	return span(min(s.Low, n), max(s.High, n))
}

// P8.2, P8.3, P8.10: TestAllMinutes: the times are those of all minutes that jobs can take, and an order fits if it does with all of them. Then players rest, and courts have one job at once.
func TestAllMinutes(t *testing.T) {
	fitting, not := 0, 0
	eachProgram(t, 400, shapes(), func(t *testing.T, r *rand.Rand, p api.Program) {
		for i := range p.Days {
			for court := range p.Days[i] {
				p.Days[i][court].Low++ // so that no minute is 0
				p.Days[i][court].High += 1 + r.IntN(12)
			}
		}
		l := randomOrder(r, p)
		if l == nil {
			return
		}
		begins, ends := make([]api.Span, len(l)), make([]api.Span, len(l))
		late := make([]bool, len(l))
		eachMinutes(p, func(minutes []int) {
			b, e := timesBy(p, l, minutes)
			checkApart(t, p, l, b, e)
			for _, s := range l {
				begins[s.Job], ends[s.Job] = add(begins[s.Job], b[s.Job]), add(ends[s.Job], e[s.Job])
				late[s.Job] = late[s.Job] || e[s.Job] > p.Days[s.Day][s.Court].High
			}
		})
		wanted := -1
		if i := slices.IndexFunc(l, func(s api.Seat) bool { return late[s.Job] }); i != -1 {
			wanted = l[i].Job
			not++
		} else {
			fitting++
		}
		a, b, e := play.Times(p, l)
		if !slices.Equal(a, begins) || !slices.Equal(b, ends) || e != api.OK {
			t.Errorf("Times of %v = %v, %v, %d instead of %v, %v", l, a, b, e, begins, ends)
		}
		if fits, job, e := play.Fits(p, l); fits != (wanted == -1) || job != wanted || e != api.OK {
			t.Errorf("Fits of %v = %v, %d, %d instead of %d", l, fits, job, e, wanted)
		}
	})
	if fitting < 80 || not < 80 {
		t.Errorf("only %d fit, %d do not", fitting, not)
	}
}

// checkApart checks that jobs on one day rest between if they share players, and that no court has two at once.
func checkApart(t *testing.T, p api.Program, order []api.Seat, begins, ends []int) {
	t.Helper()
	for i, s := range order {
		for _, o := range order[:i] {
			if s.Day != o.Day {
				continue
			}
			if shareBy(p, s.Job, o.Job) && begins[s.Job] < ends[o.Job]+p.Rest {
				t.Fatalf("%v: %d begins at %d, %d ended at %d", order, s.Job, begins[s.Job], o.Job, ends[o.Job])
			}
			if s.Court == o.Court && begins[s.Job] < ends[o.Job] {
				t.Fatalf("%v: %d begins at %d, when %d plays until %d", order, s.Job, begins[s.Job], o.Job, ends[o.Job])
			}
		}
	}
}

// P8.2, P8.3: TestOrders: whether seats are an order of play.
func TestOrders(t *testing.T) {
	is, not := 0, 0
	eachProgram(t, 2000, append(shapes(), larger()...), func(t *testing.T, r *rand.Rand, p api.Program) {
		l := randomOrder(r, p)
		if l == nil {
			return
		}
		switch r.IntN(6) {
		case 0:
			r.Shuffle(len(l), func(i, j int) { l[i], l[j] = l[j], l[i] })
		case 1:
			l[r.IntN(len(l))].Day += r.IntN(5) - 2
		case 2:
			l[r.IntN(len(l))].Court += r.IntN(5) - 2
		case 3:
			l[r.IntN(len(l))].Job += r.IntN(5) - 2
		case 4:
			l = append(l, l[r.IntN(len(l))])[r.IntN(2):]
		}
		wanted := api.OK
		if isOrderBy(p, l) {
			is++
		} else {
			not++
			wanted = api.ErrOrder
		}
		if begins, ends, e := play.Times(p, l); e != wanted || e != api.OK && len(begins)+len(ends) > 0 {
			t.Errorf("Times of %v = %v, %v, %d instead of %d", l, begins, ends, e, wanted)
		}
		if fits, job, e := play.Fits(p, l); e != wanted || e != api.OK && (fits || job != 0) {
			t.Errorf("Fits of %v = %v, %d, %d instead of %d", l, fits, job, e, wanted)
		}
	})
	if is < 400 || not < 400 {
		t.Errorf("only %d are orders, %d are not", is, not)
	}
}
