package rank_test

import (
	"math/rand/v2"
	"slices"
	"testing"

	"deuce/api"
	"deuce/rank"
)

// example is L of the chapter's examples.
func example() api.Ledger {
	return api.Ledger{
		Players: 3,
		Counts:  2,
		Reports: []api.Report{
			{Id: 1, Player: 0, Week: 10, Points: 500},
			{Id: 2, Player: 0, Week: 20, Points: 300},
			{Id: 3, Player: 0, Week: 30, Points: 100, Must: true},
			{Id: 4, Player: 1, Week: 12, Points: 400},
			{Id: 5, Player: 1, Week: 40, Points: 200},
			{Id: 6, Player: 2, Week: 15, Points: 600},
		},
		Bans:   []api.Absence{{Player: 1, From: 50, To: 55}},
		Frozen: []api.Absence{{Player: 2, From: 20, To: 29}},
	}
}

// with returns L with something changed.
func with(change func(l *api.Ledger)) api.Ledger {
	l := example()
	change(&l)
	return l
}

// copied returns a ledger that shares no memory with another one.
func copied(l api.Ledger) api.Ledger {
	l.Reports, l.Bans, l.Frozen = slices.Clone(l.Reports), slices.Clone(l.Bans), slices.Clone(l.Frozen)
	return l
}

// same reports whether two ledgers are equal.
func same(a, b api.Ledger) bool {
	return a.Players == b.Players && a.Counts == b.Counts && slices.Equal(a.Reports, b.Reports) && slices.Equal(a.Bans, b.Bans) && slices.Equal(a.Frozen, b.Frozen)
}

// reports returns so many reports with Ids from one on.
func reports(from, n int) []api.Report {
	var out []api.Report
	for i := range n {
		out = append(out, api.Report{Id: from + i})
	}
	return out
}

// holds reports whether a player is away in a week.
func holds(leaves []api.Absence, player, week int) bool {
	for _, a := range leaves {
		for w := a.From; w <= a.To; w++ {
			if a.Player == player && w == week {
				return true
			}
		}
	}
	return false
}

// ageBy returns the age of a report by looking at each week.
func ageBy(l api.Ledger, r api.Report, week int) int {
	age := 0
	for w := r.Week + 1; w <= week; w++ {
		if !holds(l.Frozen, r.Player, w) {
			age++
		}
	}
	return age
}

// resultsBy returns the different reports of a player that count in a week.
func resultsBy(l api.Ledger, player, week int) []api.Report {
	var out []api.Report
	for _, r := range l.Reports {
		counts := r.Player == player && r.Week <= week && ageBy(l, r, week) < 52 && !holds(l.Bans, player, r.Week)
		if counts && !slices.Contains(out, r) {
			out = append(out, r)
		}
	}
	return out
}

// takenBy returns the results that are taken: those that must count, then the best one of the others, again and again.
func takenBy(l api.Ledger, player, week int) []api.Report {
	var out, others []api.Report
	for _, r := range resultsBy(l, player, week) {
		if r.Must {
			out = append(out, r)
		} else {
			others = append(others, r)
		}
	}
	for len(out) < l.Counts && len(others) > 0 {
		best := 0
		for i, r := range others {
			if r.Points > others[best].Points || r.Points == others[best].Points && r.Id < others[best].Id {
				best = i
			}
		}
		out = append(out, others[best])
		others = slices.Delete(others, best, best+1)
	}
	return out
}

// idsOf returns the Ids of reports in ascending order.
func idsOf(l []api.Report) []int {
	var out []int
	for _, r := range l {
		out = append(out, r.Id)
	}
	slices.Sort(out)
	return out
}

// pointsOf returns the points of reports, and those of them that must count.
func pointsOf(l []api.Report) (all, must int) {
	for _, r := range l {
		all += r.Points
		if r.Must {
			must += r.Points
		}
	}
	return all, must
}

// beats reports whether a player is before another one in the list of a week; both are on it.
func beats(l api.Ledger, week, a, b int) bool {
	points, must := pointsOf(takenBy(l, a, week))
	otherPoints, otherMust := pointsOf(takenBy(l, b, week))
	results, otherResults := len(resultsBy(l, a, week)), len(resultsBy(l, b, week))
	switch {
	case points != otherPoints:
		return points > otherPoints
	case must != otherMust:
		return must > otherMust
	case results != otherResults:
		return results < otherResults
	}
	return a < b
}

// isListed reports whether a player is on the list of a week.
func isListed(l api.Ledger, player, week int) bool {
	return !holds(l.Bans, player, week) && len(resultsBy(l, player, week)) > 0
}

// placeBy returns the place of a player in the list of a week by counting who is before, 0 if the player is not on it.
func placeBy(l api.Ledger, player, week int) int {
	if !isListed(l, player, week) {
		return 0
	}
	place := 1
	for other := range l.Players {
		if other != player && isListed(l, other, week) && beats(l, week, other, player) {
			place++
		}
	}
	return place
}

// listBy returns the list of a week by the places of all players.
func listBy(l api.Ledger, week int) []int {
	out := make([]int, l.Players)
	n := 0
	for player := range l.Players {
		if place := placeBy(l, player, week); place > 0 {
			out[place-1] = player
			n++
		}
	}
	return out[:n]
}

// ownIds is the number from which on no random ledger has Ids: those of prizes are above all others.
const ownIds = 95

// coursesBy returns the ledgers behind all courses of events.
func coursesBy(l api.Ledger, week int, prizes []int) []api.Ledger {
	var free []int
	for player := range l.Players {
		if !holds(l.Bans, player, week) {
			free = append(free, player)
		}
	}
	var out []api.Ledger
	var give func(l api.Ledger, prizes, free []int)
	give = func(l api.Ledger, prizes, free []int) {
		if len(prizes) == 0 || len(free) == 0 {
			out = append(out, l)
			return
		}
		for i, player := range free {
			more := copied(l)
			more.Reports = append(more.Reports, api.Report{Id: ownIds + len(prizes), Player: player, Week: week, Points: prizes[0]})
			give(more, prizes[1:], slices.Delete(slices.Clone(free), i, i+1))
		}
	}
	give(l, prizes, free)
	return out
}

// random returns a source of the same numbers for the same seed.
func random(seed uint64) *rand.Rand { return rand.New(rand.NewPCG(seed, 4)) }

// randomLeaves returns leaves, those of the same player with no week in common if they are apart.
func randomLeaves(r *rand.Rand, players, last int, apart bool) []api.Absence {
	var out []api.Absence
	for range r.IntN(5) {
		a := api.Absence{Player: r.IntN(players), From: r.IntN(last)}
		a.To = min(api.MaxWeek, a.From+r.IntN(1+r.IntN(30)))
		meets := func(b api.Absence) bool { return a.Player == b.Player && a.From <= b.To && b.From <= a.To }
		if !apart || !slices.ContainsFunc(out, meets) {
			out = append(out, a)
		}
	}
	return out
}

// randomLedger returns a ledger of a few players whose points are often equal.
func randomLedger(r *rand.Rand) api.Ledger {
	l := api.Ledger{Players: 1 + r.IntN(5), Counts: 1 + r.IntN(4)}
	last := 1 + r.IntN(120)
	ids := r.Perm(ownIds)
	for i := range r.IntN(20) {
		l.Reports = append(l.Reports, api.Report{Id: ids[i], Player: r.IntN(l.Players), Week: r.IntN(last), Points: 50 * r.IntN(5), Must: r.IntN(4) == 0})
	}
	for range r.IntN(1 + len(l.Reports)/2) {
		l.Reports = append(l.Reports, l.Reports[r.IntN(len(l.Reports))])
	}
	r.Shuffle(len(l.Reports), func(i, j int) { l.Reports[i], l.Reports[j] = l.Reports[j], l.Reports[i] })
	l.Bans = randomLeaves(r, l.Players, last, false)
	l.Frozen = randomLeaves(r, l.Players, last, true)
	return l
}

// randomWeek returns a week in which some of a ledger's reports are likely to count.
func randomWeek(r *rand.Rand, l api.Ledger) int {
	if len(l.Reports) == 0 || r.IntN(3) == 0 {
		return r.IntN(150)
	}
	behind := []int{0, 51, 52, r.IntN(60), r.IntN(60), r.IntN(60)}
	return l.Reports[r.IntN(len(l.Reports))].Week + behind[r.IntN(len(behind))]
}

// randomPrizes returns prizes for a week.
func randomPrizes(r *rand.Rand) []int {
	var out []int
	for range r.IntN(api.MaxPrizes + 1) {
		out = append(out, 50*r.IntN(5))
	}
	return out
}

// eachLedger calls a function with ledgers and weeks.
func eachLedger(t *testing.T, times uint64, do func(t *testing.T, r *rand.Rand, l api.Ledger, week int)) {
	t.Helper()
	for seed := range times {
		r := random(seed)
		l := randomLedger(r)
		if e := rank.Check(l); e != api.OK {
			t.Fatalf("seed %d: Check = %d of %v", seed, e, l)
		}
		week := randomWeek(r, l)
		do(t, r, l, week)
		if t.Failed() {
			t.Fatalf("seed %d: week %d of %v", seed, week, l)
		}
	}
}

// pointsIn returns the points of a player in a week.
func pointsIn(t *testing.T, l api.Ledger, player, week int) int {
	t.Helper()
	n, e := rank.Points(l, player, week)
	if e != api.OK {
		t.Fatalf("Points of %d in %d: %d", player, week, e)
	}
	return n
}

// listOf returns the list of a week.
func listOf(t *testing.T, l api.Ledger, week int) []int {
	t.Helper()
	out, e := rank.List(l, week)
	if e != api.OK {
		t.Fatalf("List of %d: %d", week, e)
	}
	return out
}
