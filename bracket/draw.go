package bracket

import (
	"slices"

	"deuce/api"
)

// draw is a tree and slips that have been checked: its slots have the players of now, and sure is who surely wins which match. Who surely wins a match surely wins all matches before it, too.
type draw struct {
	api.Tree
	sure map[match]int
}

// open returns a draw that is checked now.
func open(t api.Tree, l []api.Slip) (draw, api.Errno) {
	d := draw{t, map[match]int{}}
	if !d.valid() {
		return draw{}, api.ErrTree
	}
	if !d.describes(l) {
		return draw{}, api.ErrSlip
	}
	d.Slots = slices.Clone(t.Slots)
	if !d.take(l) {
		return draw{}, api.ErrClash
	}
	return d, api.OK
}

// openAt returns a draw that is checked now with a match.
func openAt(t api.Tree, l []api.Slip, m match) (draw, api.Errno) {
	d, e := open(t, l)
	if e != api.OK {
		return draw{}, e
	}
	if !d.has(m) {
		return draw{}, api.ErrArg
	}
	return d, api.OK
}

// openFor returns a draw that is checked now with some players.
func openFor(t api.Tree, l []api.Slip, players ...int) (draw, api.Errno) {
	d, e := open(t, l)
	if e != api.OK {
		return draw{}, e
	}
	if slices.ContainsFunc(players, func(player int) bool { return !validPlayer(player) }) {
		return draw{}, api.ErrArg
	}
	return d, api.OK
}

func within(n, low, high int) bool { return low <= n && n <= high }

func validPlayer(player int) bool { return within(player, 0, api.MaxPlayer) }

// valid reports whether the tree of a draw is valid.
func (d draw) valid() bool {
	if !within(d.Rounds, 1, api.MaxRounds) || len(d.Slots) != 1<<d.Rounds {
		return false
	}
	known := map[int]bool{}
	for slot, player := range d.Slots {
		facing := d.Slots[slot^1]
		if player == api.Bye && facing != api.Bye {
			continue
		}
		if !validPlayer(player) || known[player] {
			return false
		}
		known[player] = true
	}
	return true
}

// wins returns the least and the greatest number of matches that the player of a slot can have won in the end.
func (d draw) wins(slot int) api.Span {
	var out api.Span
	for round := range d.Rounds {
		winner, sure := d.sure[matchOf(slot, round)]
		if sure && winner != d.Slots[slot] {
			break
		}
		out.High++
		if sure {
			out.Low++
		}
	}
	return out
}

// may returns all players who can win a match, in ascending order.
func (d draw) may(m match) []int {
	var out []int
	for slot, player := range d.Slots {
		if matchOf(slot, m.round) == m && d.wins(slot).High > m.round {
			out = append(out, player)
		}
	}
	slices.Sort(out)
	return out
}

// left returns how many matches have no sure winner.
func (d draw) left() int {
	n := 0
	for m := range d.matches {
		if _, sure := d.sure[m]; !sure {
			n++
		}
	}
	return n
}

// meet returns the round in which the players of two different slots can meet, and whether they can.
func (d draw) meet(a, b int) (round int, can bool) {
	for matchOf(a, round) != matchOf(b, round) {
		round++
	}
	return round, d.wins(a).High >= round && d.wins(b).High >= round
}
