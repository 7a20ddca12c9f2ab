package play_test

import (
	"math/rand/v2"
	"slices"
	"testing"

	"deuce/api"
	"deuce/play"
)

// due returns a program whose first jobs have other last days.
func due(p api.Program, days ...int) api.Program {
	for job, day := range days {
		p.Jobs[job].Due = day
	}
	return p
}

// hours returns a program with other hours of its days, on one court.
func hours(p api.Program, days ...api.Span) api.Program {
	p.Days = nil
	for _, day := range days {
		p.Days = append(p.Days, []api.Span{day})
	}
	return p
}

// P8.4 to P8.6: TestDays: in how many days all can be played, an order for it, and the first day by which it cannot.
func TestDays(t *testing.T) {
	none := number{0, api.ErrNone}
	for name, x := range map[string]struct {
		p     api.Program
		days  number
		stuck int
	}{
		"G":                         {example(), number{1, api.OK}, -1},
		"H":                         {short(), number{2, api.OK}, -1},
		"H, all due on day 0":       {due(short(), 0, 0, 0), none, 0},
		"H, the last due on day 0":  {due(short(), 2, 2, 0), none, 0},
		"H, the first due on day 0": {due(short(), 0, 0, 2), number{2, api.OK}, -1},
		"no jobs":                   {with(func(p *api.Program) { p.Jobs = nil }), number{0, api.OK}, -1},
		"no jobs, closed":           {hours(with(func(p *api.Program) { p.Jobs = nil }), span(5, 5)), number{0, api.OK}, -1},
		"closed":                    {hours(example(), span(600, 600)), none, 1},
		"closed, due later":         {hours(due(example(), 2, 2, 2), span(600, 600)), none, 2},
		"closed, one due at once":   {hours(due(example(), 2, 0, 2), span(600, 600)), none, 0},
		"closed at first":           {hours(example(), span(600, 600), span(0, 1440)), number{2, api.OK}, -1},
		"closed at first, due":      {hours(due(example(), 1, 0, 1), span(600, 600), span(0, 1440)), none, 0},
		"one a day":                 {hours(due(example(), 2, 2, 2), span(0, 150), span(0, 150), span(0, 150)), number{3, api.OK}, -1},
		"one a day, too few":        {hours(due(example(), 2, 2, 2), span(0, 150), span(0, 150)), none, 2},
		"one a day, due on day 1":   {hours(due(example(), 2, 2, 1), span(0, 150), span(0, 150), span(0, 150)), none, 1},
		"one a day, due at once":    {hours(due(example(), 0, 0, 2), span(0, 150), span(0, 150), span(0, 150)), none, 0},
		"long first day is best":    {hours(example(), span(0, 430), span(0, 1440)), number{1, api.OK}, -1},
		"one minute less":           {hours(example(), span(0, 399), span(0, 1440)), number{2, api.OK}, -1},
		"the last first":            {hours(due(api.Program{Jobs: []api.Job{{Length: span(9, 9), Due: 2}, {Length: span(9, 9)}}}), span(0, 9), span(0, 9)), number{2, api.OK}, -1},
		"just long enough, at once": {api.Program{Days: [][]api.Span{{span(5, 14), span(5, 14), span(5, 14)}}, Jobs: slices.Repeat([]api.Job{{Length: span(1, 9)}}, 3)}, number{1, api.OK}, -1},
		"one more of them":          {api.Program{Days: [][]api.Span{{span(5, 14), span(5, 14), span(5, 14)}}, Jobs: slices.Repeat([]api.Job{{Length: span(1, 9)}}, 4)}, none, 0},
		"just long enough, later":   {api.Program{Days: [][]api.Span{{span(5, 23), span(0, 23)}}, Rest: 600, Jobs: slices.Repeat([]api.Job{{Length: span(1, 9), Earliest: 5}}, 4)}, number{1, api.OK}, -1},
		"what waits for the sun":    {hours(with(func(p *api.Program) { p.Jobs = p.Jobs[:2]; p.Jobs[0].Earliest = 100 }), span(0, 220), span(0, 220)), number{1, api.OK}, -1},
		"it waits too long":         {hours(with(func(p *api.Program) { p.Jobs = p.Jobs[:2]; p.Jobs[0].Earliest = 101 }), span(0, 220), span(0, 220)), none, 1},
	} {
		if n, e := play.Days(x.p); (number{n, e}) != x.days {
			t.Errorf("%s: Days = %d, %d", name, n, e)
		}
		if d, e := play.Stuck(x.p); d != x.stuck || e != api.OK {
			t.Errorf("%s: Stuck = %d, %d", name, d, e)
		}
		l, e := play.Best(x.p)
		if e != x.days.e || e != api.OK && len(l) > 0 {
			t.Errorf("%s: Best = %v, %d", name, l, e)
		}
		if e == api.OK {
			checkFits(t, name, x.p, l)
			if daysOf(l) != x.days.n {
				t.Errorf("%s: Best = %v", name, l)
			}
		}
	}
}

// P8.6: TestLeftOut: jobs that are due later matter for Stuck if others are After them, but not if they are With them, or after them.
func TestLeftOut(t *testing.T) {
	job := func(due int, after ...int) api.Job {
		return api.Job{Length: span(5, 10), Due: due, After: after}
	}
	chain := func(dues ...int) api.Program {
		p := hours(api.Program{Rest: 10}, span(0, 30), span(0, 30))
		for i, d := range dues {
			p.Jobs = append(p.Jobs, job(d))
			if i > 0 {
				p.Jobs[i].After = []int{i - 1}
			}
		}
		return p
	}
	beside := chain(0, 0)
	beside.Jobs = append(beside.Jobs, api.Job{Length: span(5, 31), With: []int{0, 1}, Due: 1})
	first := chain(0, 0)
	first.Jobs = slices.Insert(first.Jobs, 0, api.Job{Length: span(5, 31), Due: 2})
	first.Jobs[2].After, first.Jobs[1].With = []int{1}, []int{0, 2}
	for name, x := range map[string]struct {
		p    api.Program
		want int
	}{
		"two in a row":            {chain(0, 0), -1},
		"three in a row":          {chain(0, 0, 0), 0},
		"the last is due":         {chain(2, 2, 0), 0},
		"the last is due later":   {chain(0, 0, 1), -1},
		"the last of five":        {chain(2, 2, 2, 2, 1), 1},
		"the last of five, later": {chain(0, 1, 1, 1, 2), 2},
		"four in a row":           {chain(0, 0, 1, 1), -1},
		"five in a row":           {chain(0, 0, 1, 1, 2), 2},
		"With one that is long":   {beside, 1},
		"a long one is the first": {first, 2},
	} {
		if d, e := play.Stuck(x.p); d != x.want || e != api.OK {
			t.Errorf("%s: Stuck = %d, %d", name, d, e)
		}
	}
}

// fewestDays returns the fewest days of all orders that fit.
func fewestDays(p api.Program) number {
	days := api.MaxDays + 1
	if eachFitting(p, func(order []api.Seat) { days = min(days, daysOf(order)) }) == 0 {
		return number{0, api.ErrNone}
	}
	return number{days, api.OK}
}

// P8.4 to P8.6, P8.11, P8.12: TestAllOrders: Days, Best and Stuck are right for all orders of play that there are.
func TestAllOrders(t *testing.T) {
	days, stuck := map[number]int{}, map[int]int{}
	check := func(t *testing.T, r *rand.Rand, p api.Program) {
		wanted := fewestDays(p)
		days[wanted]++
		if n, e := play.Days(p); (number{n, e}) != wanted {
			t.Errorf("Days = %d, %d instead of %v", n, e, wanted)
		}
		l, e := play.Best(p)
		if e != wanted.e || e != api.OK && len(l) > 0 {
			t.Errorf("Best = %v, %d instead of %v", l, e, wanted)
		}
		if e == api.OK {
			checkFits(t, "Best", p, l)
			if daysOf(l) != wanted.n {
				t.Errorf("Best = %v instead of %v", l, wanted)
			}
		}
		first := -1
		for d := range api.MaxDays {
			if fewestDays(dueBy(p, d)).e != api.OK {
				first = d
				break
			}
		}
		stuck[first]++
		if d, e := play.Stuck(p); d != first || e != api.OK {
			t.Errorf("Stuck = %d, %d instead of %d", d, e, first)
		}
		if (first == -1) != (wanted.e == api.OK) {
			t.Errorf("%d is the first day, but %v", first, wanted)
		}
	}
	eachProgram(t, 1500, shapes(), check)
	eachProgram(t, 60, larger(), check)
	for _, n := range []number{{1, api.OK}, {2, api.OK}, {3, api.OK}, {0, api.ErrNone}} {
		if days[n] < 40 {
			t.Errorf("only %d have %v", days[n], n)
		}
	}
	for d := range api.MaxDays {
		if stuck[d] < 40 {
			t.Errorf("only %d are stuck on the day %d", stuck[d], d)
		}
	}
}
