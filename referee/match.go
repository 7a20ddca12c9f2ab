package referee

import (
	"strconv"
	"strings"

	"deuce/api"
	"deuce/score"
)

// isOpen reports whether a match is open.
func (w *work) isOpen() bool { return w.Round != none }

// shut makes no match the open one.
func (w *work) shut() { w.Round, w.Place, w.First, w.Points = none, none, 0, nil }

// isSide reports whether a number is that of a side.
func isSide(n int) bool { return n == 0 || n == 1 }

// open opens a match.
func (w *work) open(n []int) string {
	_, ready := w.ready(n[0], n[1])
	if w.isOpen() || !isSide(n[2]) || !ready {
		return no
	}
	w.Round, w.Place, w.First = n[0], n[1], n[2]
	return yes
}

// point plays a point of the open match.
func (w *work) point(n []int) string {
	if !w.isOpen() || !isSide(n[0]) {
		return no
	}
	points := append(w.Points, n[0])
	s, e := score.Play(w.Format, w.First, points)
	// Only their number can be wrong.
	if e != api.OK {
		return full
	}
	if s.Winner != none {
		return w.end(api.Played, s.Winner)
	}
	w.Points = points
	return yes
}

// leave returns what happens if a side leaves the open match: the other one has won it, by a slip of a kind.
func (w *work) leave(kind int) func(n []int) string {
	return func(n []int) string {
		if !w.isOpen() || !isSide(n[0]) {
			return no
		}
		return w.end(kind, 1-n[0])
	}
}

// end ends the open match, which a side has won, by a slip of a kind.
func (w *work) end(kind, side int) string {
	if w.isFull() {
		return full
	}
	// It is ready as long as it is open: there is no slip about it, and none that changes its players.
	b, _ := w.ready(w.Round, w.Place)
	winner := b.One
	if side == 1 {
		winner = b.Two
	}
	w.Slips = append(w.Slips, api.Slip{Kind: kind, Round: w.Round, Place: w.Place, Player: winner})
	w.shut()
	return strconv.Itoa(winner)
}

// played returns the answer with what the score of the open match tells.
func (w *work) played(tell func(s api.Score) string) func(n []int) string {
	return func([]int) string {
		if !w.isOpen() {
			return no
		}
		s, _ := score.Play(w.Format, w.First, w.Points)
		return tell(s)
	}
}

// games tells the games of all sets, and the points.
func games(s api.Score) string {
	var words []string
	for _, p := range append(s.Board.Sets, s.Board.Games, s.Board.Points) {
		words = append(words, strconv.Itoa(p.A)+"-"+strconv.Itoa(p.B))
	}
	return strings.Join(words, " ")
}

// server tells who serves the next point.
func server(s api.Score) string { return strconv.Itoa(s.Server) }
