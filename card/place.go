package card

import (
	"deuce/api"
	"deuce/score"
)

// nobody is no side.
const nobody = -1

// sets is the games of the sets that are over; the others are 0 0.
type sets [2*api.MaxSets - 1]api.Pair

// stand is the games of the set in play, and the points of the game in play.
type stand struct{ games, points api.Pair }

// place is where a match can stand: opens is the side that serves first in the game in play.
type place struct {
	sets
	stand
	opens, winner int
}

// over returns how many sets are over.
func (s sets) over() int {
	won := s.won()
	return won.A + won.B
}

// won returns how many sets the sides have won.
func (s sets) won() api.Pair {
	var won api.Pair
	for _, games := range s {
		switch {
		case games.A > games.B:
			won.A++
		case games.A < games.B:
			won.B++
		}
	}
	return won
}

// winners returns sets of which nothing is told but how many the sides have won.
func (s sets) winners() sets {
	var out sets
	won := s.won()
	for i := range won.A {
		out[i] = api.Pair{A: 1}
	}
	for i := range won.B {
		out[won.A+i] = api.Pair{B: 1}
	}
	return out
}

// plus returns a pair with one more for a side.
func plus(p api.Pair, side int) api.Pair {
	if side == 0 {
		p.A++
	} else {
		p.B++
	}
	return p
}

// after returns where a match stands after a point.
func (p place) after(f api.Format, side int) place {
	s := formatOfSet(f, p.sets)
	next := p
	next.points = plus(p.points, side)
	if arises(s, next.stand) {
		return next
	}
	next.stand = stand{games: plus(p.games, side)}
	next.opens = 1 - p.opens
	if arises(s, next.stand) {
		return next
	}
	next.sets[p.over()] = next.games
	next.stand = stand{}
	if won := next.won(); max(won.A, won.B) == f.Sets {
		next.opens, next.winner = nobody, side
	}
	return next
}

// server returns the side that serves the next point, nobody if the match is over.
func (p place) server(f api.Format) int {
	tie := formatOfSet(f, p.sets).LastTie
	// Of a tie-break the point 0 is a turn of its own, then each turn has two points.
	turn := (p.points.A + p.points.B + 1) / 2
	if p.games == (api.Pair{A: tie, B: tie}) && turn%2 == 1 {
		return 1 - p.opens
	}
	return p.opens
}

// formatOfSet returns the format of a match that is just the set behind some other ones.
func formatOfSet(f api.Format, s sets) api.Format {
	if s.won() != (api.Pair{A: f.Sets - 1, B: f.Sets - 1}) {
		f.LastTie, f.LastTo = f.Tie, f.To
	}
	f.Sets = 1
	return f
}

// arises reports whether a set can stand so: of a stand, and the one after a point, which of them arises tells whether the point has ended a game or the set.
func arises(set api.Format, s stand) bool {
	is, _ := score.Arises(set, api.Board{Games: lowered(s.games), Points: lowered(s.points)})
	return is
}

// lowered returns a pair that arises just if another one does, and that is not above MaxBoard: of numbers above MaxTo, which is above MaxGames, only the difference matters.
func lowered(p api.Pair) api.Pair {
	if spare := min(p.A, p.B) - api.MaxTo; spare > 0 {
		p.A -= spare
		p.B -= spare
	}
	return p
}
