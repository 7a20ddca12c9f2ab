package rank

import (
	"cmp"
	"slices"

	"deuce/api"
)

// The player and the week 0 are ones of each ledger: functions that have no player or no week of their own are checked with these.
const anyPlayer, anyWeek = 0, 0

// maxId is the greatest Id that a report can have.
const maxId = 99

// ledger is a ledger that has been checked, with each of its reports once, ordered by Id. Its reports are its own, the leaves are those of an argument.
type ledger struct{ api.Ledger }

// open returns a ledger that is checked now.
func open(l api.Ledger) (ledger, api.Errno) {
	if !valid(l) {
		return ledger{}, api.ErrLedger
	}
	l.Reports = different(l.Reports)
	if clash(l.Reports) {
		return ledger{}, api.ErrReport
	}
	return ledger{l}, api.OK
}

// openFor returns a ledger that is checked now with a player and a week.
func openFor(l api.Ledger, player, week int) (ledger, api.Errno) {
	c, e := open(l)
	if e != api.OK {
		return ledger{}, e
	}
	if !within(player, 0, c.Players-1) || !within(week, 0, api.MaxWeek) {
		return ledger{}, api.ErrArg
	}
	return c, api.OK
}

func within(n, low, high int) bool { return low <= n && n <= high }

// valid reports whether a ledger is valid; its reports may clash.
func valid(l api.Ledger) bool {
	if !within(l.Players, 1, api.MaxPlayers) || !within(l.Counts, 1, api.MaxCounts) || len(l.Reports) > api.MaxReports {
		return false
	}
	for _, r := range l.Reports {
		if !within(r.Id, 0, maxId) || !within(r.Player, 0, l.Players-1) || !within(r.Week, 0, api.MaxWeek) || !within(r.Points, 0, api.MaxWorth) {
			return false
		}
	}
	return validLeaves(l.Bans, l.Players) && validLeaves(l.Frozen, l.Players) && apart(l.Frozen)
}

// validLeaves reports whether there are not too many leaves, each of a player and in the weeks that there are.
func validLeaves(leaves []api.Absence, players int) bool {
	if len(leaves) > api.MaxSpans {
		return false
	}
	for _, a := range leaves {
		if !within(a.Player, 0, players-1) || a.From < 0 || a.From > a.To || a.To > api.MaxWeek {
			return false
		}
	}
	return true
}

// apart reports whether no two leaves of the same player have a week in common.
func apart(leaves []api.Absence) bool {
	for i, a := range leaves {
		meets := func(b api.Absence) bool { return a.Player == b.Player && a.From <= b.To && b.From <= a.To }
		if slices.ContainsFunc(leaves[:i], meets) {
			return false
		}
	}
	return true
}

// different returns the different reports, each once, ordered by Id, as new memory.
func different(reports []api.Report) []api.Report {
	times := map[api.Report]int{}
	var out []api.Report
	for _, r := range reports {
		if times[r] == 0 {
			out = append(out, r)
		}
		times[r]++
	}
	slices.SortStableFunc(out, func(a, b api.Report) int { return cmp.Compare(a.Id, b.Id) })
	return out
}

// clash reports whether two reports have the same Id; they are different ones, ordered by Id.
func clash(reports []api.Report) bool {
	for i := range len(reports) - 1 {
		if reports[i].Id == reports[i+1].Id {
			return true
		}
	}
	return false
}

// away reports whether a player is away in a week.
func away(leaves []api.Absence, player, week int) bool {
	return slices.ContainsFunc(leaves, func(a api.Absence) bool {
		return a.Player == player && within(week, a.From, a.To)
	})
}
