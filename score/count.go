package score

import (
	"math"

	"deuce/api"
)

// never is more points than any way needs by which a side can win.
const never = math.MaxInt / 2

// leastFromPoints returns the fewest points after which a side can have won from a board on whose match is not over.
func leastFromPoints(f api.Format, won api.Pair, b api.Board, side int) int {
	s := formatOfSet(f, won)
	tie := isTie(s, b.Games)
	best := never
	// A game, or a set, that is nearly lost can be the shorter way, if a short tie-break comes behind it.
	for taker := range 2 {
		n := pointsOfGame(s, tie, b.Points, taker)
		if endsSet(s, b.Games, taker) {
			n += leastFromGames(f, plus(won, taker), api.Pair{}, side)
		} else {
			n += leastFromGames(f, won, plus(b.Games, taker), side)
		}
		best = min(best, n)
	}
	return best
}

// leastFromGames is leastFromPoints where no point of the game in play is played, or the match is over.
func leastFromGames(f api.Format, won, games api.Pair, side int) int {
	switch winner(f, won) {
	case side:
		return 0
	case 1 - side:
		return never
	}
	s := formatOfSet(f, won)
	best := never
	// From the beginning of a game on, each game that the loser of the set wins only makes the set longer.
	for taker := range 2 {
		_, points := runOfGames(s, games, taker)
		best = min(best, points+leastFromGames(f, plus(won, taker), api.Pair{}, side))
	}
	return best
}

// pointsOfGame returns the points of the rest of a game of which a side wins all points.
func pointsOfGame(s api.Format, tie bool, points api.Pair, side int) int {
	to, lead := aims(s, tie)
	return max(to, of(points, 1-side)+lead) - of(points, side)
}

// runOfGames returns the games and the points of the rest of a set of which a side wins all points.
func runOfGames(s api.Format, games api.Pair, side int) (many, points int) {
	for {
		many++
		points += pointsOfGame(s, isTie(s, games), api.Pair{}, side)
		if endsSet(s, games, side) {
			return many, points
		}
		games = plus(games, side)
	}
}

// fewestGames returns the least number of games of a match: one side wins all of them.
func fewestGames(f api.Format) int {
	sum := 0
	for set := range f.Sets {
		many, _ := runOfGames(formatOfSet(f, api.Pair{A: set}), api.Pair{}, 0)
		sum += many
	}
	return sum
}

// mostGames returns the greatest number of games of a match, -1 if it has no bound.
func mostGames(f api.Format) int {
	sum := 0
	for set := range 2*f.Sets - 1 {
		s := formatOfSet(f, api.Pair{A: (set + 1) / 2, B: set / 2})
		if s.Tie == -1 {
			return -1
		}
		sum += 2*s.Tie + 1
	}
	return sum
}

// orders returns in how many orders of the winners of its games a set can come to an end.
func orders(s api.Format, end api.Pair) int {
	ways := map[api.Pair]int{{}: 1}
	for a := range end.A + 1 {
		for b := range end.B + 1 {
			games := api.Pair{A: a, B: b}
			if games == end || a+b > 0 && gamesArise(s, games) {
				ways[games] = ways[minus(games, 0)] + ways[minus(games, 1)]
			}
		}
	}
	return ways[end]
}
