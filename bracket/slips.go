package bracket

import (
	"slices"

	"deuce/api"
)

// turn is a slot, and a player who leaves it to a lucky loser.
type turn struct {
	slot, old int
}

// describes reports whether there are not too many slips, all of them as described.
func (d draw) describes(l []api.Slip) bool {
	return len(l) <= api.MaxSlips && !slices.ContainsFunc(l, func(s api.Slip) bool { return !d.described(s) })
}

// described reports whether a slip is as described.
func (d draw) described(s api.Slip) bool {
	if !validPlayer(s.Player) {
		return false
	}
	switch s.Kind {
	case api.Played, api.Walkover, api.Retired, api.Default:
		m := match{s.Round, s.Place}
		return s.Old == 0 && d.has(m) && !d.hasBye(m)
	case api.Lucky:
		return s.Round == 0 && within(s.Place, 0, len(d.Slots)-1) && validPlayer(s.Old)
	}
	return false
}

// take takes slips that are as described, and reports whether they agree. The slots and the sure winners of the draw are changed.
func (d draw) take(l []api.Slip) bool {
	lucky, results := map[turn]int{}, map[match]api.Slip{}
	for _, s := range l {
		var one bool
		if s.Kind == api.Lucky {
			one = set(lucky, turn{s.Place, s.Old}, s.Player)
		} else {
			one = set(results, match{s.Round, s.Place}, s)
		}
		if !one {
			return false
		}
	}
	if !d.replace(lucky) {
		return false
	}
	d.passByes()
	// The order does not matter: the same wins are noted, and if two of them clash, the one that comes later fails.
	for m, s := range results {
		if !d.win(m, s.Player) {
			return false
		}
	}
	return true
}

// set gives a key its value, and reports whether it had no other one.
func set[K, V comparable](to map[K]V, key K, value V) bool {
	other, known := to[key]
	to[key] = value
	return !known || other == value
}

// replace gives slots to lucky losers, one after the other, and reports whether each of them is used, and is new to the draw. The map is changed.
func (d draw) replace(lucky map[turn]int) bool {
	known := map[int]bool{}
	for _, player := range d.Slots {
		known[player] = true
	}
	for slot := range d.Slots {
		for {
			now := turn{slot, d.Slots[slot]}
			player, comes := lucky[now]
			if !comes {
				break
			}
			if known[player] {
				return false
			}
			known[player] = true
			delete(lucky, now)
			d.Slots[slot] = player
		}
	}
	return len(lucky) == 0
}

// passByes notes that those who face byes win.
func (d draw) passByes() {
	for slot, player := range d.Slots {
		if d.Slots[slot^1] == api.Bye {
			d.sure[matchOf(slot, 0)] = player
		}
	}
}

// win notes that a player wins a match and all before it, and reports whether the player can.
func (d draw) win(m match, player int) bool {
	slot := slices.Index(d.Slots, player)
	if slot == -1 || matchOf(slot, m.round) != m {
		return false
	}
	for round := range m.round + 1 {
		if !set(d.sure, matchOf(slot, round), player) {
			return false
		}
	}
	return true
}
