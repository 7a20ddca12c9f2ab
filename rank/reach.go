package rank

import "deuce/api"

// tally is, by the set of prizes that are given (the prize i is the bit i), how many players can be ahead of one: the empty span if the prizes cannot be given so.
type tally [1 << api.MaxPrizes]api.Span

// empty returns the empty span; joined with another one it is that one.
func empty() api.Span { return api.Span{Low: api.MaxPlayers, High: -1} }

// join returns the least span with all of two spans.
func join(a, b api.Span) api.Span {
	return api.Span{Low: min(a.Low, b.Low), High: max(a.High, b.High)}
}

// newTally returns a tally in which nothing can be given.
func newTally() tally {
	var t tally
	for set := range t {
		t[set] = empty()
	}
	return t
}

// with returns a tally with one more player, who gets no prize, or one that is left; ahead tells with which of the chances this player is ahead.
func (t tally) with(ahead []bool) tally {
	out := newTally()
	for set, n := range t {
		if n == empty() {
			continue
		}
		for chance, is := range ahead {
			if prize := setOf(chance); set&prize == 0 {
				out[set|prize] = join(out[set|prize], api.Span{Low: n.Low + one(is), High: n.High + one(is)})
			}
		}
	}
	return out
}

// setOf returns the set of the prizes that a player gets with a chance.
func setOf(chance int) int {
	if chance == 0 {
		return 0
	}
	return 1 << (chance - 1)
}

// chances returns the lines that a player can have: the chance 0 is without a prize, the chance i with the prize i - 1.
func (l ledger) chances(player, week int, prizes []int) []line {
	results := l.results(player, week)
	out := []line{l.lineOf(player, results)}
	n := len(results)
	for _, points := range prizes {
		prize := api.Report{Id: maxId + 1, Player: player, Week: week, Points: points}
		// The capacity is cut, so that each prize comes in memory of its own.
		out = append(out, l.lineOf(player, append(results[:n:n], prize)))
	}
	return out
}

// ahead returns with which of a player's chances the player is on the list, and before a line.
func ahead(of line, chances []line) []bool {
	var out []bool
	for _, x := range chances {
		out = append(out, x.results > 0 && x.compare(of) < 0)
	}
	return out
}

// reach returns how many players can be ahead of one who is not banned, in all courses of events, and whether this one is on the list in all of them.
func (l ledger) reach(player, week int, prizes []int) (before api.Span, listed bool) {
	players := l.allowed(week)
	prizes = prizes[:min(len(prizes), len(players))]
	var others [][]line
	for _, other := range players {
		if other != player {
			others = append(others, l.chances(other, week, prizes))
		}
	}
	all := 1<<len(prizes) - 1
	before = empty()
	for chance, own := range l.chances(player, week, prizes) {
		t := newTally()
		t[setOf(chance)] = api.Span{}
		for _, chances := range others {
			t = t.with(ahead(own, chances))
		}
		// A chance with which not all prizes can be given is in no course.
		if t[all] != empty() && own.results == 0 {
			return api.Span{}, false
		}
		before = join(before, t[all])
	}
	return before, true
}
