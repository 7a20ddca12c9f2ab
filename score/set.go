package score

import "deuce/api"

// toGame is the number of points that wins a game that is no tie-break.
const toGame = 4

// of returns the number of a side.
func of(p api.Pair, side int) int {
	if side == 0 {
		return p.A
	}
	return p.B
}

// plus returns the pair with one more for a side.
func plus(p api.Pair, side int) api.Pair {
	if side == 0 {
		p.A++
	} else {
		p.B++
	}
	return p
}

// minus returns the pair with one less for a side.
func minus(p api.Pair, side int) api.Pair {
	if side == 0 {
		p.A--
	} else {
		p.B--
	}
	return p
}

// near reports whether no side has two more than the other one.
func near(p api.Pair) bool {
	return -2 < p.A-p.B && p.A-p.B < 2
}

// winner returns the side that has won the match with the sets it has won, -1 if none has.
func winner(f api.Format, won api.Pair) int {
	for side := range 2 {
		if of(won, side) == f.Sets {
			return side
		}
	}
	return -1
}

// formatOfSet returns the format of the next set when the sides have won some sets: with LastTie and LastTo as Tie and To if it is the last one, so that no other function needs to know which set it is in.
func formatOfSet(f api.Format, won api.Pair) api.Format {
	if won == (api.Pair{A: f.Sets - 1, B: f.Sets - 1}) {
		f.Tie, f.To = f.LastTie, f.LastTo
	}
	return f
}

// isTie reports whether the next game of a set is a tie-break.
func isTie(s api.Format, games api.Pair) bool {
	return games == api.Pair{A: s.Tie, B: s.Tie}
}

// aims returns the points to which a game goes, and by how many more than the other side's it is won.
func aims(s api.Format, tie bool) (to, lead int) {
	switch {
	case tie:
		return s.To, 2
	case s.NoAd:
		return toGame, 1
	}
	return toGame, 2
}

// endsGame reports whether the point that a side has just won wins it the game.
func endsGame(s api.Format, tie bool, points api.Pair, side int) bool {
	to, lead := aims(s, tie)
	return of(points, side) >= to && of(points, side)-of(points, 1-side) >= lead
}

// endsSet reports whether a side wins the set with the next game.
func endsSet(s api.Format, games api.Pair, side int) bool {
	if isTie(s, games) {
		return true
	}
	games = plus(games, side)
	return of(games, side) >= s.Games && !near(games)
}
