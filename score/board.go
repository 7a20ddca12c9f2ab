package score

import "deuce/api"

// numbered reports whether a board has not too many sets, and only numbers that it can have.
func numbered(b api.Board) bool {
	if len(b.Sets) > 2*api.MaxSets-1 {
		return false
	}
	fine := func(p api.Pair) bool {
		return min(p.A, p.B) >= 0 && max(p.A, p.B) <= api.MaxBoard
	}
	for _, games := range b.Sets {
		if !fine(games) {
			return false
		}
	}
	return fine(b.Games) && fine(b.Points)
}

// setsWon returns the sets that the sides have won; an error unless the format is valid and the board arises.
func setsWon(f api.Format, b api.Board) (api.Pair, api.Errno) {
	if e := Check(f); e != api.OK {
		return api.Pair{}, e
	}
	if !numbered(b) {
		return api.Pair{}, api.ErrBoard
	}
	won, arises := standing(f, b)
	if !arises {
		return api.Pair{}, api.ErrBoard
	}
	return won, api.OK
}

// standing returns the sets that the sides have won, and whether the board arises.
func standing(f api.Format, b api.Board) (won api.Pair, arises bool) {
	for _, games := range b.Sets {
		if winner(f, won) != -1 {
			return api.Pair{}, false
		}
		side := setWinner(formatOfSet(f, won), games)
		if side == -1 {
			return api.Pair{}, false
		}
		won = plus(won, side)
	}
	if winner(f, won) != -1 {
		return won, b.Games == api.Pair{} && b.Points == api.Pair{}
	}
	s := formatOfSet(f, won)
	return won, gamesArise(s, b.Games) && pointsArise(s, isTie(s, b.Games), b.Points)
}

// setWinner returns the side that wins a set with these games, -1 if no set ends with them.
func setWinner(s api.Format, games api.Pair) int {
	for side := range 2 {
		before := minus(games, side)
		if of(before, side) >= 0 && gamesArise(s, before) && endsSet(s, before, side) {
			return side
		}
	}
	return -1
}

// gamesArise reports whether a set can be in play with these games.
func gamesArise(s api.Format, games api.Pair) bool {
	most := max(games.A, games.B)
	// A side with more games than the tie-break is at has won it, or the set before.
	if s.Tie >= 0 && most > s.Tie {
		return false
	}
	return most < s.Games || near(games)
}

// pointsArise reports whether a game can be in play with these points.
func pointsArise(s api.Format, tie bool, points api.Pair) bool {
	to, lead := aims(s, tie)
	return max(points.A, points.B) < to || lead == 2 && near(points)
}
