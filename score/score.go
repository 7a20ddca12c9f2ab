// Package score is layer 1: see shared/doc/01-score.md.
package score

import "deuce/api"

// Check returns ErrFormat unless a format is valid.
func Check(f api.Format) api.Errno {
	within := func(n, low, high int) bool { return low <= n && n <= high }
	tie := func(n int) bool { return n == -1 || n == 0 || n == f.Games-1 || n == f.Games }
	if !within(f.Sets, 1, api.MaxSets) || !within(f.Games, 1, api.MaxGames) ||
		!tie(f.Tie) || !tie(f.LastTie) ||
		!within(f.To, 1, api.MaxTo) || !within(f.LastTo, 1, api.MaxTo) ||
		!within(f.First, 0, api.MaxBalls) || !within(f.Then, 0, api.MaxBalls) {
		return api.ErrFormat
	}
	return api.OK
}

// Play returns the score after some points.
func Play(f api.Format, first int, points []int) (api.Score, api.Errno) {
	m, e := play(f, first, points)
	return m.Score, e
}

// Games returns all games that are over after some points.
func Games(f api.Format, first int, points []int) ([]api.Game, api.Errno) {
	m, e := play(f, first, points)
	return m.games, e
}

// Arises reports whether a board arises.
func Arises(f api.Format, b api.Board) (bool, api.Errno) {
	if e := Check(f); e != api.OK {
		return false, e
	}
	if !numbered(b) {
		return false, api.ErrBoard
	}
	_, arises := standing(f, b)
	return arises, api.OK
}

// Least returns the fewest further points after which a side can have won.
func Least(f api.Format, b api.Board, side int) (int, api.Errno) {
	won, e := setsWon(f, b)
	if e != api.OK {
		return 0, e
	}
	if side != 0 && side != 1 {
		return 0, api.ErrArg
	}
	switch winner(f, won) {
	case side:
		return 0, api.OK
	case 1 - side:
		return 0, api.ErrNone
	}
	return leastFromPoints(f, won, b, side), api.OK
}

// Ways returns in how many orders of games some sets can have been played.
func Ways(f api.Format, sets []api.Pair) (int, api.Errno) {
	if _, e := setsWon(f, api.Board{Sets: sets}); e != api.OK {
		return 0, e
	}
	ways, won := 1, api.Pair{}
	for _, games := range sets {
		s := formatOfSet(f, won)
		n := orders(s, games)
		// Divided rather than multiplied, as the product of long sets exceeds an int.
		if ways > api.MaxWays/n {
			return 0, api.ErrMany
		}
		ways *= n
		won = plus(won, setWinner(s, games))
	}
	return ways, api.OK
}

// Range returns the least and the greatest number of games of a match, and the least number of points.
func Range(f api.Format) (games api.Span, points int, e api.Errno) {
	if e := Check(f); e != api.OK {
		return api.Span{}, 0, e
	}
	games = api.Span{Low: fewestGames(f), High: mostGames(f)}
	return games, leastFromGames(f, api.Pair{}, api.Pair{}, 0), api.OK
}
