package draws

import (
	"slices"

	"deuce/api"
)

// validPlayers reports whether players who withdraw are in a sheet.
func validPlayers(sheet, players []int) bool {
	missing := func(player int) bool { return player == api.Bye || !slices.Contains(sheet, player) }
	return !slices.ContainsFunc(players, missing)
}

// validLucky reports whether lucky losers are different players who are not in a sheet.
func validLucky(sheet, lucky []int) bool {
	known := map[int]bool{}
	for _, player := range lucky {
		if !within(player, 0, api.MaxPlayer) || known[player] || slices.Contains(sheet, player) {
			return false
		}
		known[player] = true
	}
	return true
}

// replace returns a sheet in which the slots of players, in ascending order, have the lucky losers, and Bye when none is left.
func replace(sheet, players, lucky []int) []int {
	out := slices.Clone(sheet)
	for slot, player := range sheet {
		if !slices.Contains(players, player) {
			continue
		}
		out[slot] = api.Bye
		if len(lucky) > 0 {
			out[slot], lucky = lucky[0], lucky[1:]
		}
	}
	return out
}
