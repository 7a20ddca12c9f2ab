package rank

import (
	"cmp"
	"slices"

	"deuce/api"
)

// line is what a list is ordered by: a player, the points, those of them by results that must count, and how many results count.
type line struct{ player, points, must, results int }

// compare compares two lines by which one is first in a list.
func (a line) compare(b line) int {
	return cmp.Or(cmp.Compare(b.points, a.points), cmp.Compare(b.must, a.must), cmp.Compare(a.results, b.results), cmp.Compare(a.player, b.player))
}

// lineOf returns the line of a player with results that count.
func (l ledger) lineOf(player int, results []api.Report) line {
	out := line{player: player, results: len(results)}
	for _, r := range l.taken(results) {
		out.points += r.Points
		out.must += r.Points * one(r.Must)
	}
	return out
}

// allowed returns the players who are not banned in a week.
func (l ledger) allowed(week int) []int {
	var out []int
	for player := range l.Players {
		if !away(l.Bans, player, week) {
			out = append(out, player)
		}
	}
	return out
}

// list returns the players of the list of a week, in its order.
func (l ledger) list(week int) []int {
	var lines []line
	for _, player := range l.allowed(week) {
		if results := l.results(player, week); len(results) > 0 {
			lines = append(lines, l.lineOf(player, results))
		}
	}
	slices.SortFunc(lines, line.compare)
	var out []int
	for _, x := range lines {
		out = append(out, x.player)
	}
	return out
}

// place returns the place of a player in the list of a week, and whether the player is on it.
func (l ledger) place(player, week int) (place int, listed bool) {
	at := slices.Index(l.list(week), player)
	return at + 1, at >= 0
}
