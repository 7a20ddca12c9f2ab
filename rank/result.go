package rank

import (
	"cmp"
	"slices"

	"deuce/api"
)

// age returns the age of a report in a week that is not before its own.
func (l ledger) age(r api.Report, week int) int {
	age := week - r.Week
	// The leaves of a player have no week in common, so no week is taken off twice.
	for _, a := range l.Frozen {
		if a.Player == r.Player {
			age -= max(0, min(a.To, week)-max(a.From, r.Week+1)+1)
		}
	}
	return age
}

// results returns the reports of a player that count in a week.
func (l ledger) results(player, week int) []api.Report {
	var out []api.Report
	for _, r := range l.Reports {
		if r.Player == player && r.Week <= week && l.age(r, week) < api.Year && !away(l.Bans, player, r.Week) {
			out = append(out, r)
		}
	}
	return out
}

// taken returns those of a player's results that are taken, the ones that must count first.
func (l ledger) taken(results []api.Report) []api.Report {
	must := 0
	for _, r := range results {
		must += one(r.Must)
	}
	best := slices.Clone(results)
	slices.SortFunc(best, better)
	return best[:min(max(l.Counts, must), len(best))]
}

// better compares two results by which one is taken first.
func better(a, b api.Report) int {
	return cmp.Or(cmp.Compare(one(b.Must), one(a.Must)), cmp.Compare(b.Points, a.Points), cmp.Compare(a.Id, b.Id))
}

// one returns 1 for what is so, and 0 for what is not.
func one(is bool) int {
	if is {
		return 1
	}
	return 0
}

// points returns the points of a player in a week.
func (l ledger) points(player, week int) int {
	return l.lineOf(player, l.results(player, week)).points
}
