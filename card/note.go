package card

import "deuce/api"

func within(n, low, high int) bool { return low <= n && n <= high }

// valid reports whether a mark is one that a card can have.
func valid(x api.Note) bool {
	side := func(least int) bool {
		return within(x.Side, least, 1) && x.Pair == api.Pair{}
	}
	pair := func(most int) bool {
		return x.Side == 0 && within(x.Pair.A, 0, most) && within(x.Pair.B, 0, most)
	}
	switch x.Kind {
	case api.Noted:
		return side(-1)
	case api.Missed:
		return pair(api.MaxMissed) && x.Pair.A <= x.Pair.B
	case api.Points, api.Games, api.Sets:
		return pair(api.MaxBoard)
	case api.Serves, api.Over:
		return side(0)
	}
	return false
}

// pointsOf returns how many points are played with a mark, at least and at most.
func pointsOf(x api.Note) (least, most int) {
	switch x.Kind {
	case api.Noted:
		return 1, 1
	case api.Missed:
		return x.Pair.A, x.Pair.B
	}
	return 0, 0
}

// canWin reports whether a side can win a point that is played with a mark.
func canWin(x api.Note, side int) bool {
	return x.Kind == api.Missed || x.Side == -1 || x.Side == side
}

// truth returns the test whether a mark is true of a place. Marks of points are true everywhere, as their points are counted elsewhere.
func truth(f api.Format, x api.Note) func(p place) bool {
	zero := api.Pair{}
	switch x.Kind {
	case api.Points:
		return func(p place) bool { return p.points == x.Pair }
	case api.Games:
		return func(p place) bool { return p.games == x.Pair && p.points == zero }
	case api.Sets:
		return func(p place) bool { return p.won() == x.Pair && p.stand == stand{} }
	case api.Serves:
		return func(p place) bool { return p.server(f) == x.Side }
	case api.Over:
		return func(p place) bool { return p.winner == x.Side }
	}
	return func(place) bool { return true }
}
