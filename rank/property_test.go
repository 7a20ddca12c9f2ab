package rank_test

import (
	"math/rand/v2"
	"slices"
	"testing"

	"deuce/api"
	"deuce/rank"
)

// results is what all functions answer about a player and a week, and their errors.
type results struct {
	ages, taken, list                           []int
	points, place, defends, guard, best, worst  int
	placeError, defendsError, guardError, reach api.Errno
}

// all returns what all functions answer.
func all(t *testing.T, l api.Ledger, player, week int, prizes []int) results {
	t.Helper()
	var out results
	for id := range 100 {
		n, e := rank.Age(l, id, week)
		out.ages = append(out.ages, n, int(e))
	}
	out.taken, _ = rank.Taken(l, player, week)
	out.list = listOf(t, l, week)
	out.points = pointsIn(t, l, player, week)
	out.place, out.placeError = rank.Place(l, player, week)
	out.defends, out.defendsError = rank.Defends(l, player, week)
	out.guard, out.guardError = rank.Protected(l, player)
	out.best, out.worst, out.reach = rank.Reach(l, player, week, prizes)
	return out
}

// equal reports whether two results are equal.
func equal(a, b results) bool {
	lists := slices.Equal(a.ages, b.ages) && slices.Equal(a.taken, b.taken) && slices.Equal(a.list, b.list)
	return lists && a.points == b.points && a.place == b.place && a.placeError == b.placeError &&
		a.defends == b.defends && a.defendsError == b.defendsError && a.guard == b.guard && a.guardError == b.guardError &&
		a.best == b.best && a.worst == b.worst && a.reach == b.reach
}

// P4.12: TestInAnyOrder: neither the order of reports nor how often they come matters.
func TestInAnyOrder(t *testing.T) {
	eachLedger(t, 300, func(t *testing.T, r *rand.Rand, l api.Ledger, week int) {
		prizes := randomPrizes(r)
		other := copied(l)
		for range min(r.IntN(9), len(l.Reports)) {
			other.Reports = append(other.Reports, l.Reports[r.IntN(len(l.Reports))])
		}
		r.Shuffle(len(other.Reports), func(i, j int) {
			other.Reports[i], other.Reports[j] = other.Reports[j], other.Reports[i]
		})
		for player := range l.Players {
			if a, b := all(t, l, player, week, prizes), all(t, other, player, week, prizes); !equal(a, b) {
				t.Errorf("%d: %v, and %v with the reports %v", player, a, b, other.Reports)
			}
		}
	})
}

// weeksOf returns in how many weeks the only report of a ledger counts.
func weeksOf(t *testing.T, l api.Ledger) int {
	t.Helper()
	n := 0
	for week := range api.MaxWeek + 1 {
		if list := listOf(t, l, week); slices.Equal(list, []int{1}) {
			n++
		} else if len(list) > 0 {
			t.Errorf("the list of %d is %v", week, list)
		}
	}
	return n
}

// P4.13: TestYear: a report counts in 52 weeks from its week on, and one more for each week that is frozen.
func TestYear(t *testing.T) {
	for _, from := range []int{0, 1, 100, 348, 349, 400} {
		l := api.Ledger{Players: 2, Counts: 1, Reports: []api.Report{{Id: 4, Player: 1, Week: from, Points: 7}}}
		for week := range api.MaxWeek + 1 {
			want := 0
			if from <= week && week < from+52 {
				want = 7
			}
			if n := pointsIn(t, l, 1, week); n != want {
				t.Errorf("from %d: Points in %d = %d", from, week, n)
			}
		}
		if n := weeksOf(t, l); n != min(52, 401-from) {
			t.Errorf("from %d: %d weeks", from, n)
		}
	}
	for i, x := range []struct{ from, to, want int }{
		{0, 49, 52}, {0, 50, 52}, {0, 51, 53}, {51, 51, 53}, {51, 60, 62}, {90, 101, 64}, {101, 101, 53}, {102, 102, 53}, {102, 200, 151}, {103, 103, 52}, {103, 200, 52}, {60, 400, 351}, {0, 400, 351},
	} {
		l := api.Ledger{Players: 2, Counts: 1, Reports: []api.Report{{Id: 4, Player: 1, Week: 50}}, Frozen: []api.Absence{{Player: 1, From: x.from, To: x.to}}}
		if n := weeksOf(t, l); n != x.want {
			t.Errorf("%d: %d weeks", i, n)
		}
		l.Frozen[0].Player = 0
		if n := weeksOf(t, l); n != 52 {
			t.Errorf("%d: %d weeks if another player is away", i, n)
		}
	}
}

// P4.13: TestFrozenWeek: each week that is frozen while a report counts makes it count one week longer.
func TestFrozenWeek(t *testing.T) {
	l := api.Ledger{Players: 2, Counts: 1, Reports: []api.Report{{Id: 4, Player: 1, Week: 20}}}
	for seed := range uint64(100) {
		r := random(seed)
		l.Frozen = nil
		free := r.Perm(60)
		for n := range api.MaxSpans {
			week := 21 + free[n]
			if week > 72+n {
				break // the report does not count up to this week
			}
			l.Frozen = append(l.Frozen, api.Absence{Player: 1, From: week, To: week})
			if many := weeksOf(t, l); many != 53+n {
				t.Fatalf("%d weeks with the leaves %v", many, l.Frozen)
			}
		}
	}
}

// P4.14: TestOneMore: one more result that need not count loses no points, and no place if the points become more.
func TestOneMore(t *testing.T) {
	better := 0
	eachLedger(t, 1500, func(t *testing.T, r *rand.Rand, l api.Ledger, week int) {
		player := r.IntN(l.Players)
		more, e := rank.Merge(l, []api.Report{{Id: 95 + r.IntN(5), Player: player, Week: max(0, week-r.IntN(60)), Points: 50 * r.IntN(6)}})
		if e != api.OK {
			t.Fatalf("Merge: %d", e)
		}
		before, after := pointsIn(t, l, player, week), pointsIn(t, more, player, week)
		if after < before {
			t.Errorf("%d has %d points instead of %d", player, after, before)
		}
		place, e := rank.Place(l, player, week)
		now, f := rank.Place(more, player, week)
		if after > before && e == api.OK {
			better++
			if now > place || f != api.OK {
				t.Errorf("%d has the place %d, %d instead of %d", player, now, f, place)
			}
		}
	})
	if better < 200 {
		t.Errorf("only %d had more points", better)
	}
}

// P4.15: TestDefended: the points of the next week, if nothing comes, are those of this one less what is defended; they rise only behind results that must count.
func TestDefended(t *testing.T) {
	risen, fallen := 0, 0
	eachLedger(t, 1500, func(t *testing.T, r *rand.Rand, l api.Ledger, week int) {
		now := copied(l)
		now.Reports = slices.DeleteFunc(now.Reports, func(x api.Report) bool { return x.Week > week })
		free := copied(now)
		for i := range free.Reports {
			free.Reports[i].Must = false
		}
		for player := range l.Players {
			n, e := rank.Defends(l, player, week)
			this, next := pointsIn(t, l, player, week), pointsIn(t, now, player, week+1)
			if next != this-n || e != api.OK {
				t.Errorf("%d has %d points, then %d; Defends = %d, %d", player, this, next, n, e)
			}
			if n < 0 {
				risen++
			} else if n > 0 {
				fallen++
			}
			if n, e := rank.Defends(free, player, week); n < 0 || e != api.OK {
				t.Errorf("Defends of %d = %d, %d though no result must count", player, n, e)
			}
			if a, b := pointsIn(t, free, player, week), pointsIn(t, free, player, week+1); b > a {
				t.Errorf("the points of %d rise from %d to %d", player, a, b)
			}
		}
	})
	if risen == 0 || fallen < 50 {
		t.Errorf("%d have risen, %d fallen", risen, fallen)
	}
}

// P4.17: TestBan: a ban removes a player from the lists of its weeks, and what was won in them; nothing else changes.
func TestBan(t *testing.T) {
	eachLedger(t, 600, func(t *testing.T, r *rand.Rand, l api.Ledger, week int) {
		player := r.IntN(l.Players)
		from := max(0, week-r.IntN(60))
		ban := api.Absence{Player: player, From: from, To: from + r.IntN(60)}
		banned, without := copied(l), copied(l)
		banned.Bans = append(banned.Bans, ban)
		won := func(x api.Report) bool { return x.Player == player && ban.From <= x.Week && x.Week <= ban.To }
		without.Reports = slices.DeleteFunc(without.Reports, won)
		for other := range l.Players {
			want := pointsIn(t, l, other, week)
			if other == player {
				want = pointsIn(t, without, other, week)
			}
			if n := pointsIn(t, banned, other, week); n != want {
				t.Errorf("%d has %d points instead of %d behind the ban %v", other, n, want, ban)
			}
		}
		want := listOf(t, without, week)
		if ban.From <= week && week <= ban.To {
			want = slices.DeleteFunc(want, func(n int) bool { return n == player })
			if n, e := rank.Place(banned, player, week); n != 0 || e != api.ErrNone {
				t.Errorf("Place of %d = %d, %d in the ban %v", player, n, e, ban)
			}
		}
		if list := listOf(t, banned, week); !slices.Equal(list, want) {
			t.Errorf("the list is %v instead of %v behind the ban %v", list, want, ban)
		}
	})
}

// P4.17: TestLeaveOfOne: a frozen leave changes nothing for the others.
func TestLeaveOfOne(t *testing.T) {
	eachLedger(t, 600, func(t *testing.T, r *rand.Rand, l api.Ledger, week int) {
		player := r.IntN(l.Players)
		from := max(0, week-r.IntN(60))
		frozen := copied(l)
		frozen.Frozen = append(frozen.Frozen, api.Absence{Player: player, From: from, To: from + r.IntN(60)})
		if rank.Check(frozen) != api.OK {
			return // there was a leave in one of these weeks
		}
		for other := range l.Players {
			a, b := pointsIn(t, l, other, week), pointsIn(t, frozen, other, week)
			if other != player && a != b {
				t.Errorf("%d has %d points instead of %d while %d is away", other, b, a, player)
			}
		}
	})
}
