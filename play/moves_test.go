package play_test

import (
	"math/rand/v2"
	"slices"
	"testing"

	"deuce/api"
	"deuce/play"
)

// P8.7, P8.8: TestMoves: how few jobs must be moved.
func TestMoves(t *testing.T) {
	reversed := order()
	slices.Reverse(reversed)
	for name, x := range map[string]struct {
		p    api.Program
		old  []api.Seat
		want number
	}{
		"G and O":              {example(), order(), number{0, api.OK}},
		"H and O":              {short(), order(), number{1, api.OK}},
		"another order":        {example(), reversed, number{0, api.OK}},
		"H in another order":   {short(), reversed, number{1, api.OK}},
		"no such day":          {example(), []api.Seat{seat(0, 2, 0), seat(1, 0, 1), seat(2, 0, 0)}, number{1, api.OK}},
		"no such court":        {example(), []api.Seat{seat(0, 0, 0), seat(1, 0, 2), seat(2, 0, 0)}, number{1, api.OK}},
		"all at the limit":     {example(), []api.Seat{seat(0, 2, 2), seat(1, 2, 2), seat(2, 2, 2)}, number{3, api.OK}},
		"days back":            {example(), []api.Seat{seat(0, 1, 0), seat(1, 0, 1), seat(2, 0, 0)}, number{1, api.OK}},
		"days back, two":       {example(), []api.Seat{seat(0, 1, 0), seat(1, 1, 0), seat(2, 0, 0)}, number{2, api.OK}},
		"behind its Due":       {due(example(), 0, 1, 1), []api.Seat{seat(0, 1, 0), seat(1, 0, 0), seat(2, 1, 0)}, number{1, api.OK}},
		"on a closed court":    {example(), []api.Seat{seat(0, 0, 0), seat(1, 1, 1), seat(2, 1, 0)}, number{1, api.OK}},
		"H, two on one court":  {short(), []api.Seat{seat(0, 0, 0), seat(1, 0, 0), seat(2, 1, 0)}, number{0, api.OK}},
		"all on one court":     {hours(example(), span(0, 400)), []api.Seat{seat(2, 0, 0), seat(1, 0, 0), seat(0, 0, 0)}, number{0, api.OK}},
		"one of three fits":    {hours(due(example(), 2, 2, 2), span(0, 150), span(0, 150), span(0, 150)), []api.Seat{seat(0, 2, 0), seat(1, 2, 0), seat(2, 2, 0)}, number{2, api.OK}},
		"the others go round":  {hours(due(example(), 2, 2, 2), span(0, 150), span(0, 150), span(0, 150)), []api.Seat{seat(0, 1, 0), seat(1, 2, 0), seat(2, 1, 0)}, number{2, api.OK}},
		"no order fits":        {hours(example(), span(0, 399)), order(), number{0, api.ErrNone}},
		"no order fits by Due": {due(short(), 0, 0, 0), order(), number{0, api.ErrNone}},
	} {
		n, e := play.Fewest(x.p, x.old)
		if (number{n, e}) != x.want {
			t.Errorf("%s: Fewest = %d, %d", name, n, e)
		}
		l, e := play.Repair(x.p, x.old)
		if e != x.want.e || e != api.OK && len(l) > 0 {
			t.Errorf("%s: Repair = %v, %d", name, l, e)
		}
		if e == api.OK {
			checkFits(t, name, x.p, l)
			if movesOf(l, x.old) != x.want.n {
				t.Errorf("%s: Repair = %v", name, l)
			}
		}
	}
}

// randomOld returns old seats for a program: of some order that there can be, or any.
func randomOld(r *rand.Rand, p api.Program) []api.Seat {
	out := randomOrder(r, p)
	if out == nil || r.IntN(3) == 0 {
		out = nil
		days, courts := 1+r.IntN(api.MaxDays), 1+r.IntN(api.MaxCourts)
		for job := range p.Jobs {
			out = append(out, seat(job, r.IntN(days), r.IntN(courts)))
		}
	}
	r.Shuffle(len(out), func(i, j int) { out[i], out[j] = out[j], out[i] })
	return out
}

// P8.7, P8.8, P8.14: TestFewestOfAll: no order that fits moves fewer jobs than Fewest, and Repair moves as many.
func TestFewestOfAll(t *testing.T) {
	moves := map[number]int{}
	check := func(t *testing.T, r *rand.Rand, p api.Program) {
		old := randomOld(r, p)
		wanted := number{len(p.Jobs), api.OK}
		if eachFitting(p, func(order []api.Seat) { wanted.n = min(wanted.n, movesOf(order, old)) }) == 0 {
			wanted = number{0, api.ErrNone}
		}
		moves[wanted]++
		if n, e := play.Fewest(p, old); (number{n, e}) != wanted {
			t.Errorf("Fewest of %v = %d, %d instead of %v", old, n, e, wanted)
		}
		l, e := play.Repair(p, old)
		if e != wanted.e || e != api.OK && len(l) > 0 {
			t.Errorf("Repair of %v = %v, %d instead of %v", old, l, e, wanted)
		}
		if e == api.OK {
			checkFits(t, "Repair", p, l)
			if movesOf(l, old) != wanted.n {
				t.Errorf("Repair of %v = %v instead of %v", old, l, wanted)
			}
		}
	}
	eachProgram(t, 1500, shapes(), check)
	eachProgram(t, 60, larger(), check)
	for _, n := range []number{{0, api.OK}, {1, api.OK}, {2, api.OK}, {3, api.OK}, {0, api.ErrNone}} {
		if moves[n] < 40 {
			t.Errorf("only %d have %v", moves[n], n)
		}
	}
}

// P8.14: TestOldFits: an old order that fits moves none, in whichever order its seats are told.
func TestOldFits(t *testing.T) {
	fitted := 0
	eachProgram(t, 1000, append(shapes(), larger()...), func(t *testing.T, r *rand.Rand, p api.Program) {
		l := randomOrder(r, p)
		if l == nil {
			return
		}
		if _, ends := timesBy(p, l, longest(p)); lateBy(p, l, ends) != -1 {
			return
		}
		fitted++
		old := slices.Clone(l)
		r.Shuffle(len(old), func(i, j int) { old[i], old[j] = old[j], old[i] })
		if n, e := play.Fewest(p, old); n != 0 || e != api.OK {
			t.Errorf("Fewest of %v = %d, %d", l, n, e)
		}
		repaired, e := play.Repair(p, old)
		if e != api.OK || movesOf(repaired, old) != 0 {
			t.Errorf("Repair of %v = %v, %d", l, repaired, e)
		}
		checkFits(t, "Repair", p, repaired)
	})
	if fitted < 150 {
		t.Errorf("only %d fitted", fitted)
	}
}
