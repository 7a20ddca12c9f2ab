package rank_test

import (
	"math/rand/v2"
	"slices"
	"testing"

	"deuce/api"
	"deuce/rank"
)

// P4.10: TestReach: places by prizes, of which none, some, or more than there are players can come.
func TestReach(t *testing.T) {
	banned := with(func(l *api.Ledger) { l.Bans = append(l.Bans, api.Absence{Player: 2, From: 40, To: 40}) })
	full := with(func(l *api.Ledger) { l.Counts = 1 })
	for name, x := range map[string]struct {
		l            api.Ledger
		player, week int
		prizes       []int
		best, worst  int
		e            api.Errno
	}{
		"too little":                       {example(), 1, 40, []int{50}, 3, 3, api.OK},
		"enough":                           {example(), 1, 40, []int{300}, 1, 3, api.OK},
		"two prizes":                       {example(), 1, 40, []int{300, 100}, 1, 3, api.OK},
		"no prizes":                        {example(), 1, 40, nil, 3, 3, api.OK},
		"no prizes, the first":             {example(), 0, 40, nil, 1, 1, api.OK},
		"others can win":                   {example(), 0, 40, []int{50}, 1, 2, api.OK},
		"nothing to win":                   {example(), 0, 40, []int{0, 0, 0, 0}, 1, 1, api.OK},
		"nothing to win for 2":             {example(), 2, 40, []int{0}, 2, 3, api.OK},
		"banned":                           {example(), 1, 50, []int{300}, 0, 0, api.ErrNone},
		"banned, and wrong prizes":         {example(), 1, 50, []int{-1}, 0, 0, api.ErrOpen},
		"banned players get nothing":       {example(), 0, 50, []int{9, 9, 9}, 2, 2, api.OK},
		"not as many as are not banned":    {example(), 0, 50, []int{700}, 1, 2, api.OK},
		"a prize for each":                 {example(), 0, 9, []int{3, 2, 1}, 1, 3, api.OK},
		"the same for each":                {example(), 0, 9, []int{1, 1, 1}, 1, 1, api.OK},
		"the same for each, the last":      {example(), 2, 9, []int{1, 1, 1}, 3, 3, api.OK},
		"not a prize for each":             {example(), 0, 9, []int{1, 1}, 0, 0, api.ErrNone},
		"nobody is listed":                 {example(), 0, 9, nil, 0, 0, api.ErrNone},
		"listed by nothing":                {example(), 2, 9, []int{0, 0, 0}, 3, 3, api.OK},
		"the last prize goes to nobody":    {example(), 2, 9, []int{1, 1, 1, 2000}, 3, 3, api.OK},
		"the last prizes go to nobody":     {banned, 1, 40, []int{0, 0, 100, 2000}, 2, 2, api.OK},
		"one is listed anyhow":             {example(), 0, 10, []int{600, 500}, 1, 2, api.OK},
		"one is listed anyhow, and worse":  {example(), 0, 10, []int{600, 501}, 1, 3, api.OK},
		"one is listed anyhow, and better": {example(), 0, 10, []int{500, 499}, 1, 1, api.OK},
		"just four prizes":                 {with(func(l *api.Ledger) { l.Players = 4 }), 1, 40, []int{0, 0, 0, 2000}, 1, 4, api.OK},
		"four prizes, and three players":   {example(), 1, 40, []int{0, 0, 0, 2000}, 3, 3, api.OK},
		"five prizes":                      {example(), 1, 40, []int{0, 0, 0, 0, 0}, 0, 0, api.ErrOpen},
		"a prize above":                    {example(), 1, 40, []int{0, 2001}, 0, 0, api.ErrOpen},
		"a prize below":                    {example(), 1, 40, []int{-1, 0}, 0, 0, api.ErrOpen},
		"the greatest prize":               {example(), 1, 40, []int{2000}, 1, 3, api.OK},
		"a prize that is not taken":        {full, 0, 40, []int{2000}, 3, 3, api.OK},
		"a prize that is taken instead":    {full, 2, 40, []int{700}, 1, 2, api.OK},
		"a prize just counts":              {full, 2, 40, []int{500}, 1, 1, api.OK},
		"in the last week":                 {example(), 1, 400, []int{1, 0, 2}, 1, 3, api.OK},
		"in the last week, and not enough": {example(), 1, 400, []int{1, 0}, 0, 0, api.ErrNone},
		"who is not and wrong prizes":      {example(), 0, 9, []int{2001}, 0, 0, api.ErrOpen},
	} {
		if a, b, e := rank.Reach(x.l, x.player, x.week, x.prizes); a != x.best || b != x.worst || e != x.e {
			t.Errorf("%s: Reach = %d, %d, %d", name, a, b, e)
		}
	}
}

// P4.10: TestReachOfMany: as many players, reports and prizes as there can be.
func TestReachOfMany(t *testing.T) {
	l := api.Ledger{Players: 16, Counts: 3}
	for i := range 40 {
		l.Reports = append(l.Reports, api.Report{Id: i, Player: i % 16, Week: 10, Points: 100})
	}
	// The players 0 to 7 have three results and 300 points, the others two and 200. A fourth result of 100 points or less makes a player fall behind those with three.
	for _, x := range []struct {
		player, best, worst int
		prizes              []int
	}{
		{0, 1, 5, []int{101, 101, 101, 101}},
		{7, 4, 12, []int{101, 101, 101, 101}},
		{8, 1, 13, []int{101, 101, 101, 101}},
		{15, 1, 16, []int{101, 101, 101, 101}},
		{15, 6, 16, []int{100, 100, 99, 0}},
		{15, 1, 16, []int{101, 99, 99, 99}},
		{7, 4, 11, []int{100, 100, 100, 100}},
	} {
		if a, b, e := rank.Reach(l, x.player, 12, x.prizes); a != x.best || b != x.worst || e != api.OK {
			t.Errorf("Reach of %d with %v = %d, %d, %d", x.player, x.prizes, a, b, e)
		}
	}
}

// P4.10, P4.16: TestReachAll compares reaches with the places behind all courses of events.
func TestReachAll(t *testing.T) {
	seen := map[api.Errno]int{}
	wide := 0
	eachLedger(t, 600, func(t *testing.T, r *rand.Rand, l api.Ledger, week int) {
		prizes := randomPrizes(r)
		player := r.IntN(l.Players)
		var places []int
		for _, course := range coursesBy(l, week, prizes) {
			places = append(places, placeBy(course, player, week))
		}
		best, worst, want := slices.Min(places), slices.Max(places), api.OK
		if best == 0 {
			worst, want = 0, api.ErrNone
		}
		a, b, e := rank.Reach(l, player, week, prizes)
		if a != best || b != worst || e != want {
			t.Errorf("Reach of %d with %v = %d, %d, %d instead of %d, %d", player, prizes, a, b, e, best, worst)
		}
		seen[e]++
		wide += max(0, b-a)
	})
	if len(seen) != 2 || min(seen[api.OK], seen[api.ErrNone]) < 150 || wide < 150 {
		t.Errorf("results: %v, %d places wide", seen, wide)
	}
}

// P4.16: TestReachHolds: what comes in a course is within reach, and without prizes the place is all there is.
func TestReachHolds(t *testing.T) {
	eachLedger(t, 600, func(t *testing.T, r *rand.Rand, l api.Ledger, week int) {
		prizes := randomPrizes(r)
		courses := coursesBy(l, week, prizes)
		course := courses[r.IntN(len(courses))]
		for player := range l.Players {
			best, worst, e := rank.Reach(l, player, week, prizes)
			place, f := rank.Place(course, player, week)
			if e == api.OK && (f != api.OK || place < best || place > worst) {
				t.Errorf("%d has the place %d, %d behind prizes %v; Reach = %d, %d", player, place, f, prizes, best, worst)
			}
			place, e = rank.Place(l, player, week)
			best, worst, f = rank.Reach(l, player, week, nil)
			if best != place || worst != place || e != f {
				t.Errorf("Place of %d = %d, %d; Reach = %d, %d, %d", player, place, e, best, worst, f)
			}
		}
	})
}
