package rank_test

import (
	"math/rand/v2"
	"slices"
	"testing"

	"deuce/api"
	"deuce/rank"
)

// P4.6, P4.7: TestList: the order of lists, and who is on them.
func TestList(t *testing.T) {
	// All have 200 points: 3 and 1 with one result, 0 with two, 2 with two of which one must count, 4 with one that does.
	equal := func() api.Ledger {
		return api.Ledger{Players: 6, Counts: 3, Reports: []api.Report{
			{Id: 1, Player: 3, Points: 200},
			{Id: 2, Player: 1, Points: 200},
			{Id: 3, Player: 0, Points: 100}, {Id: 4, Player: 0, Points: 100},
			{Id: 5, Player: 2, Points: 150}, {Id: 6, Player: 2, Points: 50, Must: true},
			{Id: 7, Player: 4, Points: 200, Must: true},
		}}
	}
	changed := func(change func(l *api.Ledger)) api.Ledger {
		l := equal()
		change(&l)
		return l
	}
	for name, x := range map[string]struct {
		l    api.Ledger
		week int
		want []int
	}{
		"40":                        {example(), 40, []int{0, 2, 1}},
		"50, a ban begins":          {example(), 50, []int{0, 2}},
		"49, before the ban":        {example(), 49, []int{0, 2, 1}},
		"55, the ban's last week":   {example(), 55, []int{0, 2}},
		"56, behind the ban":        {example(), 56, []int{0, 2, 1}},
		"9, before all":             {example(), 9, nil},
		"10, the first one":         {example(), 10, []int{0}},
		"12, the second one":        {example(), 12, []int{0, 1}},
		"15, the third one":         {example(), 15, []int{2, 0, 1}},
		"25, frozen and listed":     {example(), 25, []int{0, 2, 1}},
		"80":                        {example(), 80, []int{1, 0}},
		"400, behind all":           {example(), 400, nil},
		"equal points":              {equal(), 0, []int{4, 2, 1, 3, 0}},
		"equal points, a year on":   {equal(), 51, []int{4, 2, 1, 3, 0}},
		"equal points, and too old": {equal(), 52, nil},
		"a result without points":   {changed(func(l *api.Ledger) { l.Reports = append(l.Reports, api.Report{Id: 8, Player: 5}) }), 0, []int{4, 2, 1, 3, 0, 5}},
		"one more that counts":      {changed(func(l *api.Ledger) { l.Reports = append(l.Reports, api.Report{Id: 8, Player: 1}) }), 0, []int{4, 2, 3, 0, 1}},
		"more than are taken": {changed(func(l *api.Ledger) {
			l.Counts = 1
			l.Reports = append(l.Reports, api.Report{Id: 8, Player: 1, Points: 1}, api.Report{Id: 9, Player: 3, Points: 0}, api.Report{Id: 10, Player: 3, Points: 0})
		}), 0, []int{4, 1, 3, 0, 2}},
		"must, but without points": {changed(func(l *api.Ledger) { l.Reports = append(l.Reports, api.Report{Id: 8, Player: 1, Must: true}) }), 0, []int{4, 2, 3, 0, 1}},
		"must, but one week ago":   {changed(func(l *api.Ledger) { l.Reports[6].Week = 5 }), 57, []int{4}[:0]},
		"banned when it was won":   {changed(func(l *api.Ledger) { l.Bans = []api.Absence{{Player: 4}, {Player: 3, From: 1, To: 1}} }), 2, []int{2, 1, 3, 0}},
		"all banned":               {changed(func(l *api.Ledger) { l.Players, l.Reports, l.Bans = 1, l.Reports[2:4], []api.Absence{{From: 3, To: 9}} }), 4, nil},
		"frozen for two weeks":     {changed(func(l *api.Ledger) { l.Frozen = []api.Absence{{Player: 3, From: 7, To: 8}} }), 53, []int{3}},
		"most points first":        {changed(func(l *api.Ledger) { l.Reports[3].Points = 101 }), 0, []int{0, 4, 2, 1, 3}},
	} {
		l, e := rank.List(x.l, x.week)
		if !slices.Equal(l, x.want) || e != api.OK {
			t.Errorf("%s: List = %v, %d", name, l, e)
		}
		for player := range x.l.Players {
			want, f := slices.Index(x.want, player)+1, api.OK
			if want == 0 {
				f = api.ErrNone
			}
			if n, e := rank.Place(x.l, player, x.week); n != want || e != f {
				t.Errorf("%s: Place of %d = %d, %d", name, player, n, e)
			}
		}
	}
}

// P4.6, P4.7, P4.14: TestListAll compares lists with the places by the rules' words; no player with fewer points is before one with more.
func TestListAll(t *testing.T) {
	listed := 0
	eachLedger(t, 2000, func(t *testing.T, r *rand.Rand, l api.Ledger, week int) {
		list := listOf(t, l, week)
		listed += len(list)
		if want := listBy(l, week); !slices.Equal(list, want) {
			t.Errorf("List = %v instead of %v", list, want)
		}
		for i := range len(list) - 1 {
			if a, b := pointsIn(t, l, list[i], week), pointsIn(t, l, list[i+1], week); a < b {
				t.Errorf("the list is %v, but %d has %d points, and %d has %d", list, list[i], a, list[i+1], b)
			}
		}
		places := map[int]int{}
		for player := range l.Players {
			n, e := rank.Place(l, player, week)
			if isListed(l, player, week) != (e == api.OK) || e != api.OK && (n != 0 || e != api.ErrNone) {
				t.Errorf("Place of %d = %d, %d", player, n, e)
			}
			places[n]++
		}
		for i := range list {
			if places[i+1] != 1 {
				t.Errorf("%d players have the place %d", places[i+1], i+1)
			}
		}
	})
	if listed < 2000 {
		t.Errorf("only %d places", listed)
	}
}

// P4.8: TestDefends: what falls off, and what comes back instead of it.
func TestDefends(t *testing.T) {
	back := with(func(l *api.Ledger) { l.Reports[2].Week = 5 })
	for name, x := range map[string]struct {
		l                  api.Ledger
		player, week, want int
		e                  api.Errno
	}{
		"of 0 in 61":                     {example(), 0, 61, 200, api.OK},
		"of 0 in 60":                     {example(), 0, 60, 0, api.OK},
		"of 0 in 71":                     {example(), 0, 71, 300, api.OK},
		"of 0 in 81":                     {example(), 0, 81, 100, api.OK},
		"a better one comes":             {example(), 0, 19, 0, api.OK},
		"one that must count comes":      {example(), 0, 29, 0, api.OK},
		"the first one comes":            {example(), 0, 9, 0, api.OK},
		"one falls off as another comes": {with(func(l *api.Ledger) { l.Reports[1].Week = 62 }), 0, 61, 500, api.OK},
		"one of this week is taken then": {with(func(l *api.Ledger) { l.Reports[1].Week = 61 }), 0, 61, 200, api.OK},
		"the last frozen week":           {example(), 2, 76, 600, api.OK},
		"the last week without a leave":  {example(), 2, 66, 0, api.OK},
		"frozen in the next week":        {with(func(l *api.Ledger) { l.Frozen[0] = api.Absence{Player: 2, From: 67, To: 70} }), 2, 66, 0, api.OK},
		"while banned":                   {with(func(l *api.Ledger) { l.Bans[0].To = 90 }), 1, 63, 400, api.OK},
		"behind one that must count":     {back, 0, 56, -200, api.OK},
		"before that":                    {back, 0, 55, 0, api.OK},
		"the last week but one":          {example(), 0, 399, 0, api.OK},
		"the last week":                  {example(), 0, 400, 0, api.ErrArg},
	} {
		if n, e := rank.Defends(x.l, x.player, x.week); n != x.want || e != x.e {
			t.Errorf("%s: Defends = %d, %d", name, n, e)
		}
	}
}

// P4.9: TestProtected: the mean place of the first weeks of the first leave.
func TestProtected(t *testing.T) {
	frozen := func(leaves ...api.Absence) api.Ledger { return with(func(l *api.Ledger) { l.Frozen = leaves }) }
	of := func(player, from, to int) api.Absence { return api.Absence{Player: player, From: from, To: to} }
	banned := frozen(of(1, 44, 53))
	for name, x := range map[string]struct {
		l            api.Ledger
		player, want int
		e            api.Errno
	}{
		"of 2":                     {example(), 2, 2, api.OK},
		"of 0":                     {example(), 0, 0, api.ErrNone},
		"of 1":                     {example(), 1, 0, api.ErrNone},
		"the first week":           {frozen(of(2, 19, 19)), 2, 1, api.OK},
		"one of two weeks":         {frozen(of(2, 19, 20)), 2, 1, api.OK},
		"one of three weeks":       {frozen(of(2, 19, 21)), 2, 1, api.OK},
		"before all":               {frozen(of(2, 0, 9)), 2, 3, api.OK},
		"a mean of just 2":         {frozen(of(2, 10, 21)), 2, 2, api.OK},
		"a mean of nearly 2":       {frozen(of(2, 11, 22)), 2, 1, api.OK},
		"just 2, without end":      {frozen(of(2, 10, 400)), 2, 2, api.OK},
		"nearly 2, without end":    {frozen(of(2, 11, 400)), 2, 1, api.OK},
		"12 weeks without a place": {with(func(l *api.Ledger) { l.Players, l.Frozen[0] = 16, of(2, 3, 400) }), 2, 16, api.OK},
		"11 weeks without a place": {with(func(l *api.Ledger) { l.Players, l.Frozen[0] = 16, of(2, 4, 400) }), 2, 14, api.OK},
		"the last week":            {frozen(of(0, 400, 400)), 0, 3, api.OK},
		"the first of two":         {frozen(of(2, 30, 40), of(2, 15, 16)), 2, 1, api.OK},
		"the first of three":       {frozen(of(2, 15, 16), of(2, 30, 40), of(2, 5, 8)), 2, 3, api.OK},
		"of others, too":           {frozen(of(1, 0, 3), of(2, 15, 16), of(0, 1, 2)), 2, 1, api.OK},
		"banned, too":              {banned, 1, 3, api.OK},
		"more players":             {with(func(l *api.Ledger) { l.Players, l.Frozen[0] = 16, of(9, 3, 5) }), 9, 16, api.OK},
		"a mean of many":           {with(func(l *api.Ledger) { l.Players, l.Frozen[0] = 16, of(1, 10, 12) }), 1, 11, api.OK},
	} {
		if n, e := rank.Protected(x.l, x.player); n != x.want || e != x.e {
			t.Errorf("%s: Protected = %d, %d", name, n, e)
		}
	}
}

// protectedBy returns the protected place by the rule's words, 0 if there is none.
func protectedBy(l api.Ledger, player int) int {
	from := 0
	for from <= api.MaxWeek && !holds(l.Frozen, player, from) {
		from++
	}
	if from > api.MaxWeek {
		return 0
	}
	to := from
	for _, a := range l.Frozen {
		if a.Player == player && a.From == from {
			to = a.To
		}
	}
	sum, n := 0, 0
	for week := from; week <= to && n < 12; week++ {
		place := placeBy(l, player, week)
		if place == 0 {
			place = l.Players
		}
		sum += place
		n++
	}
	return sum / n
}

// P4.8, P4.9: TestLeavesAll compares what is defended and protected with the rules' words.
func TestLeavesAll(t *testing.T) {
	eachLedger(t, 1000, func(t *testing.T, r *rand.Rand, l api.Ledger, week int) {
		now := copied(l)
		now.Reports = slices.DeleteFunc(now.Reports, func(x api.Report) bool { return x.Week > week })
		for player := range l.Players {
			a, _ := pointsOf(takenBy(now, player, week))
			b, _ := pointsOf(takenBy(now, player, week+1))
			if n, e := rank.Defends(l, player, week); n != a-b || e != api.OK {
				t.Errorf("Defends of %d = %d, %d instead of %d", player, n, e, a-b)
			}
			want := protectedBy(l, player)
			if n, e := rank.Protected(l, player); n != want || (e == api.OK) != (want > 0) || e != api.OK && e != api.ErrNone {
				t.Errorf("Protected of %d = %d, %d instead of %d", player, n, e, want)
			}
		}
	})
}
