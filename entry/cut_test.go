package entry_test

import (
	"math/rand/v2"
	"slices"
	"testing"

	"deuce/api"
	"deuce/entry"
	"deuce/rank"
)

// randomLedger returns a ledger of which some players have no results, or are banned, in a week.
func randomLedger(r *rand.Rand) api.Ledger {
	l := api.Ledger{Players: 1 + r.IntN(api.MaxPlayers), Counts: 1 + r.IntN(3)}
	for i := range r.IntN(api.MaxReports + 1) {
		l.Reports = append(l.Reports, api.Report{Id: i, Player: r.IntN(l.Players), Week: r.IntN(80), Points: 100 * r.IntN(5)})
	}
	for range r.IntN(3) {
		from := r.IntN(80)
		l.Bans = append(l.Bans, api.Absence{Player: r.IntN(l.Players), From: from, To: from + r.IntN(20)})
	}
	return l
}

// P0.2: TestCutOfList: if players enter with their places in the list of a week, the first ones of it are in, and behind them those who are not on it.
func TestCutOfList(t *testing.T) {
	behind, cut := 0, 0
	for seed := range uint64(500) {
		r := random(seed)
		ledger, week := randomLedger(r), r.IntN(90)
		list, e := rank.List(ledger, week)
		if e != api.OK {
			t.Fatalf("seed %d: List of the week: %d", seed, e)
		}
		f := api.Field{Places: 1 + r.IntN(20), Guards: r.IntN(3), Close: 10, Freeze: 20}
		var l []api.Notice
		want := slices.Clone(list)
		for i, player := range r.Perm(ledger.Players) {
			place, e := rank.Place(ledger, player, week)
			if e == api.ErrNone {
				want = append(want, player)
			}
			l = append(l, enter(i, r.IntN(2)+i/2, player, place))
		}
		slices.SortStableFunc(want[len(list):], func(a, b int) int { return turn(l, a) - turn(l, b) })
		in := min(f.Places, len(want))
		out := listOf(t, f, l, 20)
		if !slices.Equal(out.Main, want[:in]) || !slices.Equal(out.Out, want[in:]) {
			t.Errorf("seed %d: List = %v instead of %v", seed, out, want)
		}
		if n, e := entry.Cut(f, l, 20); in <= len(list) && (n != in || e != api.OK) || in > len(list) && (n != 0 || e != api.OK) {
			t.Errorf("seed %d: Cut = %d, %d of %v", seed, n, e, out)
		}
		behind += max(0, in-len(list))
		cut += max(0, len(list)-in)
	}
	if behind < 200 || cut < 200 {
		t.Errorf("only %d are behind the list, %d cut from it", behind, cut)
	}
}

// turn is less for a player who entered earlier.
func turn(l []api.Notice, player int) int {
	at := slices.IndexFunc(l, func(n api.Notice) bool { return n.Player == player })
	return 1000*l[at].Hour + l[at].Id
}
