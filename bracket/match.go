package bracket

import "deuce/api"

// match is where a match is in its draw.
type match struct {
	round, place int
}

// matchOf returns the match of a round to which a slot leads.
func matchOf(slot, round int) match { return match{round, slot >> (round + 1)} }

// matches yields all matches, round by round, of each round place by place.
func (d draw) matches(yield func(m match) bool) {
	for round := range d.Rounds {
		for place := range d.matchesIn(round) {
			if !yield(match{round, place}) {
				return
			}
		}
	}
}

// matchesIn returns how many matches a round has.
func (d draw) matchesIn(round int) int { return len(d.Slots) >> (round + 1) }

// has reports whether there is a match.
func (d draw) has(m match) bool {
	return within(m.round, 0, d.Rounds-1) && within(m.place, 0, d.matchesIn(m.round)-1)
}

// side returns who plays a match on a side, 0 that of the lower slots: a player who is sure, api.Bye, or api.Unknown.
func (d draw) side(m match, side int) int {
	at := 2*m.place + side
	if m.round == 0 {
		return d.Slots[at]
	}
	player, sure := d.sure[match{m.round - 1, at}]
	if !sure {
		return api.Unknown
	}
	return player
}

// hasBye reports whether one of the sides of a match is a bye.
func (d draw) hasBye(m match) bool { return d.side(m, 0) == api.Bye || d.side(m, 1) == api.Bye }

// bout returns a match with the players who are sure.
func (d draw) bout(m match) api.Bout {
	return api.Bout{Round: m.round, Place: m.place, One: d.side(m, 0), Two: d.side(m, 1)}
}

// ready reports whether both players of a match are sure, and its winner is not.
func (d draw) ready(m match) bool {
	_, sure := d.sure[m]
	return !sure && d.side(m, 0) != api.Unknown && d.side(m, 1) != api.Unknown
}
