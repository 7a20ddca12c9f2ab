package rank_test

import (
	"math"
	"slices"
	"testing"

	"deuce/api"
	"deuce/rank"
)

// invalid is ledgers of which just one thing is not valid.
func invalid() map[string]api.Ledger {
	report := func(change func(r *api.Report)) api.Ledger {
		return with(func(l *api.Ledger) { change(&l.Reports[3]) })
	}
	ban := func(a api.Absence) api.Ledger { return with(func(l *api.Ledger) { l.Bans = append(l.Bans, a) }) }
	frozen := func(a api.Absence) api.Ledger { return with(func(l *api.Ledger) { l.Frozen = append(l.Frozen, a) }) }
	return map[string]api.Ledger{
		"nothing of a ledger": {},
		"no players":          with(func(l *api.Ledger) { *l = api.Ledger{Counts: 1} }),
		"players above":       with(func(l *api.Ledger) { l.Players = 17 }),
		"counts below":        with(func(l *api.Ledger) { l.Counts = 0 }),
		"counts above":        with(func(l *api.Ledger) { l.Counts = 21 }),
		"too many reports":    with(func(l *api.Ledger) { l.Reports = reports(0, 41) }),
		"too many equal ones": with(func(l *api.Ledger) { l.Reports = slices.Repeat(l.Reports[:1], 41) }),
		"Id below":            report(func(r *api.Report) { r.Id = -1 }),
		"Id above":            report(func(r *api.Report) { r.Id = 100 }),
		"player below":        report(func(r *api.Report) { r.Player = -1 }),
		"player above":        report(func(r *api.Report) { r.Player = 3 }),
		"week below":          report(func(r *api.Report) { r.Week = -1 }),
		"week above":          report(func(r *api.Report) { r.Week = 401 }),
		"points below":        report(func(r *api.Report) { r.Points = -1 }),
		"points above":        report(func(r *api.Report) { r.Points = 2001 }),
		"nine bans":           with(func(l *api.Ledger) { l.Bans = slices.Repeat(l.Bans, 9) }),
		"ban's player below":  ban(api.Absence{Player: -1, To: 5}),
		"ban's player above":  ban(api.Absence{Player: 3, To: 5}),
		"ban from below":      ban(api.Absence{From: -1, To: 5}),
		"ban to above":        ban(api.Absence{From: 399, To: 401}),
		"ban above":           ban(api.Absence{From: 401, To: 401}),
		"ban crossed":         ban(api.Absence{From: 6, To: 5}),
		"nine leaves": with(func(l *api.Ledger) {
			l.Frozen = nil
			for i := range 9 {
				l.Frozen = append(l.Frozen, api.Absence{Player: i % 3, From: 10 * i, To: 10*i + 1})
			}
		}),
		"leave's player below": frozen(api.Absence{Player: -1, To: 5}),
		"leave's player above": frozen(api.Absence{Player: 3, To: 5}),
		"leave from below":     frozen(api.Absence{From: -1, To: 5}),
		"leave to above":       frozen(api.Absence{From: 399, To: 401}),
		"leave crossed":        frozen(api.Absence{From: 6, To: 5}),
		"equal leaves":         frozen(api.Absence{Player: 2, From: 20, To: 29}),
		"a leave in another":   frozen(api.Absence{Player: 2, From: 22, To: 22}),
		"a leave around":       frozen(api.Absence{Player: 2, From: 0, To: 400}),
		"the first week twice": frozen(api.Absence{Player: 2, From: 7, To: 20}),
		"the last week twice":  frozen(api.Absence{Player: 2, From: 29, To: 33}),
		"not valid, and clash": with(func(l *api.Ledger) { l.Reports[0].Id, l.Counts = 2, 0 }),
	}
}

// clashing is ledgers that are valid, but with reports that clash.
func clashing() map[string]api.Ledger {
	other := func(change func(r *api.Report)) api.Ledger {
		return with(func(l *api.Ledger) {
			r := l.Reports[1]
			change(&r)
			l.Reports = append(l.Reports, r)
		})
	}
	return map[string]api.Ledger{
		"player": other(func(r *api.Report) { r.Player = 1 }),
		"week":   other(func(r *api.Report) { r.Week = 21 }),
		"points": other(func(r *api.Report) { r.Points = 301 }),
		"must":   other(func(r *api.Report) { r.Must = true }),
		"equal ones between": other(func(r *api.Report) {
			r.Points = 0
		}),
		"never counts": other(func(r *api.Report) { r.Week = 400 }),
		"three with an Id": with(func(l *api.Ledger) {
			l.Reports[0].Id, l.Reports[2].Id = 2, 2
		}),
	}
}

// errorsOf checks that all functions return an error for a ledger, and nothing else with it.
func errorsOf(t *testing.T, name string, l api.Ledger, player, week int, prizes []int, want api.Errno) {
	t.Helper()
	check := func(function string, zero bool, e api.Errno) {
		t.Helper()
		if !zero || e != want {
			t.Errorf("%s: %s: zero %v, %d instead of %d", name, function, zero, e, want)
		}
	}
	age, e := rank.Age(l, 1, week)
	check("Age", age == 0, e)
	ids, e := rank.Taken(l, player, week)
	check("Taken", len(ids) == 0, e)
	points, e := rank.Points(l, player, week)
	check("Points", points == 0, e)
	list, e := rank.List(l, week)
	check("List", len(list) == 0, e)
	place, e := rank.Place(l, player, week)
	check("Place", place == 0, e)
	defends, e := rank.Defends(l, player, week)
	check("Defends", defends == 0, e)
	best, worst, e := rank.Reach(l, player, week, prizes)
	check("Reach", best == 0 && worst == 0, e)
}

// P1, P4.1: TestInvalid: the error of a ledger comes before any other one.
func TestInvalid(t *testing.T) {
	check := func(name string, l api.Ledger, want api.Errno) {
		t.Helper()
		if e := rank.Check(l); e != want {
			t.Errorf("%s: Check = %d", name, e)
		}
		errorsOf(t, name, l, 0, 40, nil, want)
		errorsOf(t, name, l, -1, 401, []int{-1}, want)
		if n, e := rank.Protected(l, 2); n != 0 || e != want {
			t.Errorf("%s: Protected = %d, %d", name, n, e)
		}
		if n, e := rank.Protected(l, -1); n != 0 || e != want {
			t.Errorf("%s: Protected of nobody = %d, %d", name, n, e)
		}
		for i, more := range [][]api.Report{nil, {{Id: 50}}, {{Id: -1}}, {{Id: 50}, {Id: 50, Points: 1}}} {
			if m, e := rank.Merge(l, more); !same(m, api.Ledger{}) || e != want {
				t.Errorf("%s, %d: Merge = %v, %d", name, i, m, e)
			}
		}
	}
	for name, l := range invalid() {
		check(name, l, api.ErrLedger)
	}
	for name, l := range clashing() {
		check(name, l, api.ErrReport)
		slices.Reverse(l.Reports)
		check(name+", the other way round", l, api.ErrReport)
	}
}

// P4.1: TestValid: ledgers at the limits.
func TestValid(t *testing.T) {
	for name, l := range map[string]api.Ledger{
		"L":                example(),
		"the least":        {Players: 1, Counts: 1},
		"the most players": {Players: 16, Counts: 20, Reports: []api.Report{{Id: 99, Player: 15, Week: 400, Points: 2000, Must: true}, {}}},
		"40 reports":       {Players: 1, Counts: 1, Reports: reports(60, 40)},
		"40 equal reports": with(func(l *api.Ledger) { l.Reports = slices.Repeat(l.Reports[:1], 40) }),
		"equal bans":       with(func(l *api.Ledger) { l.Bans = slices.Repeat(l.Bans, 8) }),
		"all weeks":        with(func(l *api.Ledger) { l.Bans[0].From, l.Bans[0].To = 0, 400 }),
		"one week":         with(func(l *api.Ledger) { l.Bans[0].From, l.Bans[0].To = 400, 400 }),
		"a ban in a leave": with(func(l *api.Ledger) { l.Bans = append(l.Bans, l.Frozen...) }),
		"leaves side by side": with(func(l *api.Ledger) {
			l.Frozen = append(l.Frozen, api.Absence{Player: 2, From: 30, To: 400}, api.Absence{Player: 2, From: 0, To: 19})
		}),
		"leaves of others": with(func(l *api.Ledger) {
			l.Frozen = append(l.Frozen, api.Absence{Player: 1, From: 20, To: 29}, api.Absence{Player: 0, From: 0, To: 400})
		}),
		"eight leaves": with(func(l *api.Ledger) {
			l.Frozen = nil
			for i := range 8 {
				l.Frozen = append(l.Frozen, api.Absence{Player: 1, From: i, To: i})
			}
		}),
		"equal reports":  with(func(l *api.Ledger) { l.Reports = slices.Repeat(l.Reports, 6) }),
		"no memory used": {Players: 1, Counts: 1, Reports: []api.Report{}, Bans: []api.Absence{}, Frozen: []api.Absence{}},
	} {
		if e := rank.Check(l); e != api.OK {
			t.Errorf("%s: Check = %d", name, e)
		}
		if _, e := rank.List(l, 400); e != api.OK {
			t.Errorf("%s: List: %d", name, e)
		}
	}
}

// P1, P4.3 to P4.10: TestArguments: which players and weeks there are, and that prizes come behind them.
func TestArguments(t *testing.T) {
	for _, prizes := range [][]int{nil, {-1}, {0, 0, 0, 0, 0}} {
		for _, week := range []int{-1, 401, math.MinInt, math.MaxInt} {
			errorsOf(t, "week", example(), 0, week, prizes, api.ErrArg)
			errorsOf(t, "player and week", example(), 3, week, prizes, api.ErrArg)
		}
	}
	for _, player := range []int{-1, 3, 16, math.MinInt, math.MaxInt} {
		for _, prizes := range [][]int{nil, {2001}} {
			if a, b, e := rank.Reach(example(), player, 40, prizes); a != 0 || b != 0 || e != api.ErrArg {
				t.Errorf("%d: Reach = %d, %d, %d", player, a, b, e)
			}
		}
		if l, e := rank.Taken(example(), player, 40); len(l) != 0 || e != api.ErrArg {
			t.Errorf("%d: Taken = %v, %d", player, l, e)
		}
		for name, f := range map[string]func(l api.Ledger, player, week int) (int, api.Errno){
			"Points":    rank.Points,
			"Place":     rank.Place,
			"Defends":   rank.Defends,
			"Protected": func(l api.Ledger, player, _ int) (int, api.Errno) { return rank.Protected(l, player) },
		} {
			if n, e := f(example(), player, 40); n != 0 || e != api.ErrArg {
				t.Errorf("%d: %s = %d, %d", player, name, n, e)
			}
		}
	}
}

// P1: TestExtremes: each number can be anything.
func TestExtremes(t *testing.T) {
	for _, n := range []int{math.MinInt, math.MinInt + 1, -1 << 32, 1 << 32, 1<<32 + 1, 1 << 62, math.MaxInt} {
		for i, change := range []func(l *api.Ledger){
			func(l *api.Ledger) { l.Players = n },
			func(l *api.Ledger) { l.Counts = n },
			func(l *api.Ledger) { l.Reports[2].Id = n },
			func(l *api.Ledger) { l.Reports[2].Player = n },
			func(l *api.Ledger) { l.Reports[2].Week = n },
			func(l *api.Ledger) { l.Reports[2].Points = n },
			func(l *api.Ledger) { l.Bans[0].Player = n },
			func(l *api.Ledger) { l.Bans[0].From = n },
			func(l *api.Ledger) { l.Bans[0].To = n },
			func(l *api.Ledger) { l.Frozen[0].Player = n },
			func(l *api.Ledger) { l.Frozen[0].From = n },
			func(l *api.Ledger) { l.Frozen[0].To = n },
			func(l *api.Ledger) { l.Frozen[0].From, l.Frozen[0].To = n, n },
		} {
			l := with(change)
			if e := rank.Check(l); e != api.ErrLedger {
				t.Errorf("%d, %d: Check = %d", n, i, e)
			}
			errorsOf(t, "ledger", l, n, n, []int{n}, api.ErrLedger)
			if m, e := rank.Merge(example(), l.Reports); (2 <= i && i <= 5) != (e == api.ErrLedger) {
				t.Errorf("%d, %d: Merge = %v, %d", n, i, m, e)
			}
		}
		if age, e := rank.Age(example(), n, 40); age != 0 || e != api.ErrNone {
			t.Errorf("%d: Age = %d, %d", n, age, e)
		}
		if a, b, e := rank.Reach(example(), 0, 40, []int{3, n}); a != 0 || b != 0 || e != api.ErrOpen {
			t.Errorf("%d: Reach = %d, %d, %d", n, a, b, e)
		}
	}
}

// R3: TestEmpty: an empty slice is the same as none.
func TestEmpty(t *testing.T) {
	a := api.Ledger{Players: 2, Counts: 1}
	b := api.Ledger{Players: 2, Counts: 1, Reports: []api.Report{}, Bans: []api.Absence{}, Frozen: []api.Absence{}}
	for i, l := range []api.Ledger{a, b} {
		if m, e := rank.Merge(l, []api.Report{}); !same(m, a) || e != api.OK {
			t.Errorf("%d: Merge = %v, %d", i, m, e)
		}
		if list, e := rank.List(l, 3); len(list) != 0 || e != api.OK {
			t.Errorf("%d: List = %v, %d", i, list, e)
		}
		if n, e := rank.Points(l, 1, 3); n != 0 || e != api.OK {
			t.Errorf("%d: Points = %d, %d", i, n, e)
		}
		if n, e := rank.Defends(l, 1, 3); n != 0 || e != api.OK {
			t.Errorf("%d: Defends = %d, %d", i, n, e)
		}
		if best, worst, e := rank.Reach(l, 1, 3, []int{}); best != 0 || worst != 0 || e != api.ErrNone {
			t.Errorf("%d: Reach = %d, %d, %d", i, best, worst, e)
		}
	}
	for i, prizes := range [][]int{nil, {}} {
		if best, worst, e := rank.Reach(example(), 1, 40, prizes); best != 3 || worst != 3 || e != api.OK {
			t.Errorf("%d: Reach = %d, %d, %d", i, best, worst, e)
		}
	}
}

// room returns a slice in which there is room behind its end.
func room[T any](l []T) []T { return append(make([]T, 0, len(l)+9), l...) }

// unused reports whether nothing is written behind the end of a slice of room.
func unused[T comparable](l []T) bool {
	var zero T
	return !slices.ContainsFunc(l[len(l):cap(l)], func(x T) bool { return x != zero })
}

// R4: TestMemory: no argument is changed, and no result shares memory with another one.
func TestMemory(t *testing.T) {
	l := example()
	slices.Reverse(l.Reports)
	l.Reports, l.Bans, l.Frozen = room(l.Reports), room(l.Bans), room(l.Frozen)
	more := room([]api.Report{{Id: 9, Player: 2, Week: 3}, {Id: 8, Points: 4}})
	prizes := room([]int{300, 100, 500, 200})
	before, late, open := copied(l), slices.Clone(more), slices.Clone(prizes)
	m, _ := rank.Merge(l, more)
	list, _ := rank.List(l, 40)
	ids, _ := rank.Taken(l, 0, 40)
	if len(m.Reports) != 8 || len(list) != 3 || len(ids) != 2 {
		t.Fatalf("%v, %v, %v", m, list, ids)
	}
	rank.Check(l)
	rank.Age(l, 6, 40)
	rank.Points(l, 0, 40)
	rank.Place(l, 0, 40)
	rank.Defends(l, 0, 20)
	rank.Protected(l, 2)
	rank.Reach(l, 1, 40, prizes)
	if !same(l, before) || !unused(l.Reports) || !unused(l.Bans) || !unused(l.Frozen) {
		t.Errorf("the ledger is %v now", l)
	}
	if !slices.Equal(more, late) || !unused(more) || !slices.Equal(prizes, open) || !unused(prizes) {
		t.Errorf("the reports are %v now, the prizes %v", more, prizes)
	}
	for i := range m.Reports {
		m.Reports[i].Points = 77
	}
	m.Bans[0].To, m.Frozen[0].To, list[0], ids[0] = 99, 99, 9, 9
	if !same(l, before) || !slices.Equal(more, late) {
		t.Errorf("the ledger is %v behind changed results, the reports %v", l, more)
	}
	again, _ := rank.List(l, 40)
	other, _ := rank.Taken(l, 0, 40)
	if !slices.Equal(again, []int{0, 2, 1}) || !slices.Equal(other, []int{1, 3}) {
		t.Errorf("%v, %v behind changed results", again, other)
	}
	// A ledger that comes back as it is shares no memory, either.
	whole, _ := rank.Merge(before, nil)
	whole.Reports[0].Id, whole.Bans[0].Player, whole.Frozen[0].Player = 55, 0, 0
	if !same(before, l) {
		t.Errorf("the ledger is %v behind a changed copy", before)
	}
}
