package score_test

import (
	"slices"

	"deuce/api"
	"deuce/score"
)

func pair(a, b int) api.Pair { return api.Pair{A: a, B: b} }

// short is the format F of the chapter's examples.
func short() api.Format {
	return api.Format{Sets: 2, Games: 2, Tie: 2, To: 3, LastTo: 4, First: 2, Then: 2}
}

// with returns the format F with something changed.
func with(change func(f *api.Format)) api.Format {
	f := short()
	change(&f)
	return f
}

// run repeats points: pairs of a side and how many points it wins.
func run(l ...int) []int {
	var out []int
	for i := 0; i < len(l); i += 2 {
		out = append(out, slices.Repeat([]int{l[i]}, l[i+1])...)
	}
	return out
}

// invalid is formats of which just one thing is not valid.
func invalid() map[string]api.Format {
	return map[string]api.Format{
		"no sets":             with(func(f *api.Format) { f.Sets = 0 }),
		"too many sets":       with(func(f *api.Format) { f.Sets = 4 }),
		"no games":            with(func(f *api.Format) { f.Games, f.Tie, f.LastTie = 0, 0, 0 }),
		"too many games":      with(func(f *api.Format) { f.Games, f.Tie, f.LastTie = 9, 9, 9 }),
		"negative games":      with(func(f *api.Format) { f.Games, f.Tie, f.LastTie = -1, -1, -1 }),
		"tie below":           with(func(f *api.Format) { f.Tie = -2 }),
		"tie above":           with(func(f *api.Format) { f.Tie = 3 }),
		"tie between":         with(func(f *api.Format) { f.Games, f.Tie, f.LastTie = 6, 3, 6 }),
		"last tie below":      with(func(f *api.Format) { f.LastTie = -2 }),
		"last tie above":      with(func(f *api.Format) { f.LastTie = 3 }),
		"last tie between":    with(func(f *api.Format) { f.Games, f.Tie, f.LastTie = 6, 6, 1 }),
		"to below":            with(func(f *api.Format) { f.To = 0 }),
		"to above":            with(func(f *api.Format) { f.To = 16 }),
		"last to below":       with(func(f *api.Format) { f.LastTo = 0 }),
		"last to above":       with(func(f *api.Format) { f.LastTo = 16 }),
		"first balls below":   with(func(f *api.Format) { f.First = -1 }),
		"first balls above":   with(func(f *api.Format) { f.First = 21 }),
		"then balls below":    with(func(f *api.Format) { f.Then = -1 }),
		"then balls above":    with(func(f *api.Format) { f.Then = 21 }),
		"nothing of a format": {},
	}
}

// formats is valid formats of all sorts: small enough to look at everything that can happen in them.
func formats() map[string]api.Format {
	return map[string]api.Format{
		"short":              short(),
		"no advantage":       with(func(f *api.Format) { f.NoAd = true }),
		"doubles":            with(func(f *api.Format) { f.Doubles = true }),
		"early tie-break":    with(func(f *api.Format) { f.Tie, f.To = 1, 1 }),
		"late last tie":      with(func(f *api.Format) { f.LastTie, f.LastTo = 2, 1 }),
		"no tie-break":       with(func(f *api.Format) { f.Tie = -1 }),
		"no last tie-break":  with(func(f *api.Format) { f.LastTie = -1 }),
		"one set":            with(func(f *api.Format) { f.Sets, f.Tie, f.LastTie, f.LastTo = 1, -1, 2, 1 }),
		"one set, one game":  {Sets: 1, Games: 1, Tie: 0, To: 9, LastTie: 1, LastTo: 2},
		"one game":           {Sets: 2, Games: 1, Tie: 1, To: 2, LastTie: -1, LastTo: 1, Doubles: true},
		"tie-breaks only":    {Sets: 3, Games: 3, Tie: 0, To: 1, LastTie: 0, LastTo: 2, First: 1, Then: 1, Doubles: true},
		"balls changed once": with(func(f *api.Format) { f.First, f.Then = 3, 0 }),
		"balls never":        with(func(f *api.Format) { f.First, f.Then = 0, 1 }),
		"balls each game":    with(func(f *api.Format) { f.First, f.Then, f.Tie = 1, 1, 1 }),
	}
}

// random returns numbers that look random, from 0 to below the argument; the same ones for the same seed.
func random(seed uint64) func(n int) int {
	return func(n int) int {
		seed = seed*6364136223846793005 + 1442695040888963407
		return int(seed>>33) % n
	}
}

// randomPoints returns points of a match, up to its end or so many of them.
func randomPoints(f api.Format, seed uint64, most int) []int {
	next := random(seed)
	var points []int
	for len(points) < most {
		s, e := score.Play(f, 0, points)
		if e != api.OK || s.Winner != -1 {
			break
		}
		side := next(2)
		// Games that go to one side at a time lead further than even ones.
		for range 1 + next(4) {
			points = append(points, side)
			if s, e := score.Play(f, 0, points); e != api.OK || s.Winner != -1 {
				break
			}
		}
	}
	return points
}

// swap exchanges the sides of points.
func swap(points []int) []int {
	out := make([]int, len(points))
	for i, side := range points {
		out[i] = 1 - side
	}
	return out
}

// swapped exchanges the numbers of a pair.
func swapped(p api.Pair) api.Pair { return pair(p.B, p.A) }

// sum is the numbers of a pair together.
func sum(p api.Pair) int { return p.A + p.B }

// same reports whether two scores are equal.
func same(a, b api.Score) bool {
	return slices.Equal(a.Board.Sets, b.Board.Sets) && a.Board.Games == b.Board.Games &&
		a.Board.Points == b.Board.Points && a.Server == b.Server && a.Ends == b.Ends &&
		a.Balls == b.Balls && a.Winner == b.Winner
}

// nothing reports whether a score is the zero value.
func nothing(s api.Score) bool {
	return same(s, api.Score{})
}
