package referee

import (
	"slices"
	"strconv"

	"deuce/api"
	"deuce/bracket"
)

// ready returns a match with its players, and whether it can be played.
func (w *work) ready(round, place int) (b api.Bout, is bool) {
	l, _ := bracket.Ready(w.Tree, w.Slips)
	at := slices.IndexFunc(l, func(b api.Bout) bool { return b.Round == round && b.Place == place })
	if at == -1 {
		return api.Bout{}, false
	}
	return l[at], true
}

// isFull reports whether another slip would be one too many.
func (w *work) isFull() bool { return len(w.Slips) == api.MaxSlips }

// walk gives a match to one of its players, as the other one does not come.
func (w *work) walk(n []int) string {
	round, place, player := n[0], n[1], n[2]
	b, ready := w.ready(round, place)
	if !ready || round == w.Round && place == w.Place || player != b.One && player != b.Two {
		return no
	}
	if w.isFull() {
		return full
	}
	w.Slips = append(w.Slips, api.Slip{Kind: api.Walkover, Round: round, Place: place, Player: player})
	return yes
}

// lucky gives the slot of a player to another one.
func (w *work) lucky(n []int) string {
	if w.isOpen() {
		return no
	}
	if w.isFull() {
		return full
	}
	slips := append(w.Slips, api.Slip{Kind: api.Lucky, Place: n[0], Player: n[1], Old: n[2]})
	if bracket.Check(w.Tree, slips) != api.OK {
		return no
	}
	w.Slips = slips
	return yes
}

// winner tells who has won a match.
func (w *work) winner(n []int) string {
	player, e := bracket.Winner(w.Tree, w.Slips, n[0], n[1])
	switch e {
	case api.OK:
		return strconv.Itoa(player)
	case api.ErrNone:
		return nothing
	}
	return no
}

// may tells who can win a match.
func (w *work) may(n []int) string {
	players, e := bracket.May(w.Tree, w.Slips, n[0], n[1])
	if e != api.OK {
		return no
	}
	return list(players)
}

// left tells how many matches have no sure winner.
func (w *work) left([]int) string {
	matches, _ := bracket.Left(w.Tree, w.Slips)
	return strconv.Itoa(matches)
}
