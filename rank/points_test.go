package rank_test

import (
	"math/rand/v2"
	"slices"
	"testing"

	"deuce/api"
	"deuce/rank"
)

// P4.3: TestAge: weeks behind the report, without those that are frozen.
func TestAge(t *testing.T) {
	frozen := func(leaves ...api.Absence) api.Ledger { return with(func(l *api.Ledger) { l.Frozen = leaves }) }
	of := func(from, to int) api.Absence { return api.Absence{Player: 2, From: from, To: to} }
	for name, x := range map[string]struct {
		l              api.Ledger
		id, week, want int
		e              api.Errno
	}{
		"of 6 in 40":                 {example(), 6, 40, 15, api.OK},
		"of 4 in 11":                 {example(), 4, 11, 0, api.ErrNone},
		"in its week":                {example(), 4, 12, 0, api.OK},
		"one week behind":            {example(), 4, 13, 1, api.OK},
		"of old ones":                {example(), 1, 400, 390, api.OK},
		"before the leave":           {example(), 6, 19, 4, api.OK},
		"in its first week":          {example(), 6, 20, 4, api.OK},
		"in its last week":           {example(), 6, 29, 4, api.OK},
		"behind it":                  {example(), 6, 30, 5, api.OK},
		"a ban does not matter":      {example(), 5, 60, 20, api.OK},
		"no such report":             {example(), 7, 40, 0, api.ErrNone},
		"no such number":             {example(), -1, 40, 0, api.ErrNone},
		"frozen in its week":         {frozen(of(15, 15)), 6, 16, 1, api.OK},
		"frozen up to its week":      {frozen(of(0, 15)), 6, 20, 5, api.OK},
		"frozen from before it":      {frozen(of(10, 17)), 6, 20, 3, api.OK},
		"frozen behind it at once":   {frozen(of(16, 16)), 6, 16, 0, api.OK},
		"frozen for ever":            {frozen(of(0, 400)), 6, 400, 0, api.OK},
		"frozen later":               {frozen(of(21, 30)), 6, 20, 5, api.OK},
		"frozen three times":         {frozen(of(30, 31), of(16, 18), of(19, 19)), 6, 40, 19, api.OK},
		"of a player who is not":     {frozen(of(0, 400)), 5, 45, 5, api.OK},
		"the same report many times": {with(func(l *api.Ledger) { l.Reports = slices.Repeat(l.Reports, 5) }), 6, 40, 15, api.OK},
		"the first week, the last":   {with(func(l *api.Ledger) { l.Reports[0].Week, l.Reports[0].Id = 400, 99 }), 99, 400, 0, api.OK},
		"a week too early":           {with(func(l *api.Ledger) { l.Reports[0].Week, l.Reports[0].Id = 400, 99 }), 99, 399, 0, api.ErrNone},
	} {
		if n, e := rank.Age(x.l, x.id, x.week); n != x.want || e != x.e {
			t.Errorf("%s: Age = %d, %d", name, n, e)
		}
	}
}

// P4.4, P4.5: TestTaken: those that must count, and the best others.
func TestTaken(t *testing.T) {
	must := func(at ...int) api.Ledger {
		return with(func(l *api.Ledger) {
			for _, i := range at {
				l.Reports[i].Must = true
			}
		})
	}
	counts := func(n int) api.Ledger { return with(func(l *api.Ledger) { l.Counts = n }) }
	banned := func(from, to int) api.Ledger {
		return with(func(l *api.Ledger) { l.Bans = []api.Absence{{Player: 0, From: from, To: to}} })
	}
	for name, x := range map[string]struct {
		l                    api.Ledger
		player, week, points int
		taken                []int
	}{
		"of 0 in 40":                 {example(), 0, 40, 600, []int{1, 3}},
		"of 0 in 62":                 {example(), 0, 62, 400, []int{2, 3}},
		"the week 51 of a report":    {example(), 0, 61, 600, []int{1, 3}},
		"before all":                 {example(), 0, 9, 0, nil},
		"the first week":             {example(), 0, 10, 500, []int{1}},
		"before those that must":     {example(), 0, 29, 800, []int{1, 2}},
		"the last week of all":       {example(), 0, 81, 100, []int{3}},
		"behind all":                 {example(), 0, 82, 0, nil},
		"of 1 while banned":          {example(), 1, 52, 600, []int{4, 5}},
		"the last frozen week":       {example(), 2, 76, 600, []int{6}},
		"behind the frozen weeks":    {example(), 2, 77, 0, nil},
		"one counts":                 {counts(1), 0, 40, 100, []int{3}},
		"one counts, before it":      {counts(1), 0, 29, 500, []int{1}},
		"all count":                  {counts(3), 0, 40, 900, []int{1, 2, 3}},
		"more than there are":        {counts(20), 0, 40, 900, []int{1, 2, 3}},
		"as many must":               {must(1), 0, 40, 400, []int{2, 3}},
		"more must":                  {must(0, 1), 0, 40, 900, []int{1, 2, 3}},
		"more must, and one other":   {with(func(l *api.Ledger) { l.Counts, l.Reports[1].Must = 1, true }), 0, 40, 400, []int{2, 3}},
		"equal ones":                 {with(func(l *api.Ledger) { l.Reports[1].Points = 500 }), 0, 40, 600, []int{1, 3}},
		"equal ones the other way":   {with(func(l *api.Ledger) { l.Reports[1].Points, l.Reports[1].Id = 500, 0 }), 0, 40, 600, []int{0, 3}},
		"nothing is a result":        {with(func(l *api.Ledger) { l.Reports[0].Points, l.Reports[1].Points = 0, 0 }), 0, 40, 100, []int{1, 3}},
		"what must is not worth it":  {with(func(l *api.Ledger) { l.Reports[2].Points = 0 }), 0, 40, 500, []int{1, 3}},
		"banned in its week":         {banned(10, 10), 0, 40, 400, []int{2, 3}},
		"banned up to before it":     {banned(0, 9), 0, 40, 600, []int{1, 3}},
		"banned behind it":           {banned(11, 19), 0, 40, 600, []int{1, 3}},
		"banned in all weeks":        {banned(0, 400), 0, 40, 0, nil},
		"banned when it must":        {banned(29, 31), 0, 40, 800, []int{1, 2}},
		"a ban later":                {banned(35, 50), 0, 40, 600, []int{1, 3}},
		"another player's ban":       {with(func(l *api.Ledger) { l.Bans[0].From = 0 }), 0, 40, 600, []int{1, 3}},
		"equal reports are one":      {with(func(l *api.Ledger) { l.Reports = slices.Repeat(l.Reports, 6) }), 0, 40, 600, []int{1, 3}},
		"in the order of their Ids":  {with(func(l *api.Ledger) { l.Counts = 3; slices.Reverse(l.Reports) }), 0, 40, 900, []int{1, 2, 3}},
		"with Ids as the points are": {with(func(l *api.Ledger) { l.Counts, l.Reports[0].Id = 3, 50 }), 0, 40, 900, []int{2, 3, 50}},
	} {
		n, e := rank.Points(x.l, x.player, x.week)
		l, f := rank.Taken(x.l, x.player, x.week)
		if n != x.points || e != api.OK || !slices.Equal(l, x.taken) || f != api.OK {
			t.Errorf("%s: Points = %d, %d; Taken = %v, %d", name, n, e, l, f)
		}
	}
}

// P4.5: TestMostPoints: no limit on points but that of their number.
func TestMostPoints(t *testing.T) {
	l := api.Ledger{Players: 1, Counts: 20, Reports: reports(0, 40)}
	for i := range l.Reports {
		l.Reports[i].Points = 2000
	}
	if n, e := rank.Points(l, 0, 51); n != 40000 || e != api.OK {
		t.Errorf("Points = %d, %d", n, e)
	}
	for i := range l.Reports {
		l.Reports[i].Must = true
	}
	if n, e := rank.Points(l, 0, 51); n != 80000 || e != api.OK {
		t.Errorf("Points = %d, %d if all must count", n, e)
	}
}

// P4.3 to P4.5, P4.11: TestPointsAll compares ages and points with those by the rules' words, and with their properties.
func TestPointsAll(t *testing.T) {
	eachLedger(t, 2000, func(t *testing.T, r *rand.Rand, l api.Ledger, week int) {
		for _, x := range l.Reports {
			n, e := rank.Age(l, x.Id, week)
			if week < x.Week && (n != 0 || e != api.ErrNone) || week >= x.Week && (n != ageBy(l, x, week) || e != api.OK) {
				t.Errorf("Age of %d = %d, %d", x.Id, n, e)
			}
		}
		for player := range l.Players {
			want := takenBy(l, player, week)
			points, _ := pointsOf(want)
			ids, e := rank.Taken(l, player, week)
			if n := pointsIn(t, l, player, week); n != points || !slices.Equal(ids, idsOf(want)) || e != api.OK {
				t.Errorf("Points of %d = %d, Taken = %v, %d instead of %d, %v", player, n, ids, e, points, idsOf(want))
			}
			checkTaken(t, l, player, week, ids)
		}
	})
}

// checkTaken checks that no other results should have been taken.
func checkTaken(t *testing.T, l api.Ledger, player, week int, ids []int) {
	t.Helper()
	sum, optional, least, best := 0, 0, api.MaxWorth, 0
	for _, x := range resultsBy(l, player, week) {
		switch is := slices.Contains(ids, x.Id); {
		case x.Must && !is:
			t.Errorf("%v must count, but is not among %v", x, ids)
		case is:
			sum += x.Points
			if !x.Must {
				optional++
				least = min(least, x.Points)
			}
		default:
			best = max(best, x.Points)
		}
	}
	if n := pointsIn(t, l, player, week); n != sum {
		t.Errorf("Points = %d, but those of %v are %d", n, ids, sum)
	}
	if optional > 0 && (best > least || len(ids) > l.Counts) {
		t.Errorf("%v are taken of %d that count, though one with %d is not", ids, l.Counts, best)
	}
}
