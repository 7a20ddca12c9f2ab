package balls_test

import (
	"math/rand/v2"
	"slices"
	"testing"

	"deuce/api"
	"deuce/balls"
	"deuce/score"
)

func pair(a, b int) api.Pair { return api.Pair{A: a, B: b} }

func span(low, high int) api.Span { return api.Span{Low: low, High: high} }

func sum(p api.Pair) int { return p.A + p.B }

// short is the format F of the chapter's examples.
func short() api.Format {
	return api.Format{Sets: 2, Games: 2, Tie: 2, To: 3, LastTo: 4, First: 2, Then: 2}
}

// like returns the format F with something changed.
func like(change func(f *api.Format)) api.Format {
	f := short()
	change(&f)
	return f
}

// usual is the format of most matches.
func usual() api.Format {
	return api.Format{Sets: 2, Games: 6, Tie: 6, To: 7, LastTie: 6, LastTo: 7, First: 7, Then: 9}
}

// in returns a board with the games of sets that are over, of the set in play, and no points; in() is that of the beginning.
func in(games ...api.Pair) api.Board {
	if len(games) == 0 {
		return api.Board{}
	}
	return api.Board{Sets: games[:len(games)-1], Games: games[len(games)-1]}
}

// atPoints returns a board with points.
func atPoints(b api.Board, a, c int) api.Board {
	b.Points = pair(a, c)
	return b
}

// depot is D of the chapter's examples.
func depot() api.Depot {
	return api.Depot{
		Kit:   api.Kit{Each: 2, Towels: 3, Frames: 1},
		Stock: []int{10, 30, 9},
		Fixtures: []api.Fixture{
			{Day: 1, Format: short()},
			{Day: 1, Format: short(), Board: in(pair(3, 1), pair(0, 1))},
			{Day: 2, Format: short()},
		},
		Crates: []api.Crate{{Day: 2, Item: 0, Count: 3}},
	}
}

// with returns the example with something changed.
func with(change func(d *api.Depot)) api.Depot {
	d := depot()
	change(&d)
	return d
}

// copied returns a depot that shares no memory with another one.
func copied(d api.Depot) api.Depot {
	d.Stock, d.Fixtures, d.Crates = slices.Clone(d.Stock), slices.Clone(d.Fixtures), slices.Clone(d.Crates)
	for i := range d.Fixtures {
		d.Fixtures[i].Board.Sets = slices.Clone(d.Fixtures[i].Board.Sets)
	}
	return d
}

// formats is formats with a bound of all sorts: small enough to look at all courses.
func formats() map[string]api.Format {
	return map[string]api.Format{
		"short":                 short(),
		"three sets":            like(func(f *api.Format) { f.Sets = 3 }),
		"three games":           like(func(f *api.Format) { f.Games, f.Tie, f.LastTie, f.First, f.Then = 3, 3, 2, 3, 3 }),
		"no advantage, doubles": like(func(f *api.Format) { f.NoAd, f.Doubles = true, true }),
		"early tie-break":       like(func(f *api.Format) { f.Tie, f.To, f.LastTie = 1, 1, 1 }),
		"balls for each game":   like(func(f *api.Format) { f.First, f.Then, f.LastTie = 1, 1, 2 }),
		"balls once, for a tie": like(func(f *api.Format) { f.First, f.Then = 4, 0 }),
		"balls never":           like(func(f *api.Format) { f.First, f.Then = 0, 1 }),
		"one set":               like(func(f *api.Format) { f.Sets, f.Tie, f.LastTie, f.First, f.Then = 1, -1, 1, 1, 1 }),
		"one set, one game":     {Sets: 1, Games: 1, Tie: -1, To: 1, LastTie: 1, LastTo: 2, First: 1, Then: 1},
		"tie-breaks only":       {Sets: 3, Games: 3, Tie: 0, To: 1, LastTie: 0, LastTo: 2, First: 1, Then: 1},
		"a long set at last":    {Sets: 3, Games: 4, Tie: 0, To: 1, LastTie: 4, LastTo: 2, First: 1, Then: 1},
		"for tie-breaks, once":  {Sets: 3, Games: 2, Tie: 0, To: 1, LastTie: 2, LastTo: 2, First: 2},
		"one game, three sets":  {Sets: 3, Games: 1, Tie: 1, To: 2, LastTie: 0, LastTo: 2, First: 2, Then: 3},
	}
}

// random returns a source of the same numbers for the same seed.
func random(seed uint64) *rand.Rand { return rand.New(rand.NewPCG(seed, 9)) }

// randomFormat returns a format with a bound, with so many games for a set at most.
func randomFormat(r *rand.Rand, games int) api.Format {
	n := 1 + r.IntN(games)
	tie := func() int { return []int{0, n - 1, n, n}[r.IntN(4)] }
	f := api.Format{Sets: 1 + r.IntN(3), Games: n, NoAd: r.IntN(2) == 0, Tie: tie(), To: 1 + r.IntN(7), LastTie: tie(), LastTo: 1 + r.IntN(7), Doubles: r.IntN(3) == 0}
	f.First, f.Then = r.IntN(2+r.IntN(api.MaxBalls)), r.IntN(1+r.IntN(10))
	if f.Sets == 1 && r.IntN(3) == 0 {
		f.Tie = -1
	}
	return f
}

// randomMatch returns the points of a match to its end, and whether it has one with so few points.
func randomMatch(r *rand.Rand, f api.Format) (points []int, over bool) {
	for {
		side := r.IntN(2)
		// Games that go to one side at a time lead further than even ones.
		for range 1 + r.IntN(6) {
			points = append(points, side)
			s, e := score.Play(f, 0, points)
			if e != api.OK {
				return nil, false
			}
			if s.Winner != -1 {
				return points, true
			}
		}
	}
}

// randomBoard returns a board of a match, now and then of its beginning or of its end.
func randomBoard(r *rand.Rand, f api.Format) api.Board {
	points, over := randomMatch(r, f)
	switch {
	case !over || r.IntN(4) == 0:
		return api.Board{}
	case r.IntN(6) > 0:
		points = points[:r.IntN(len(points))]
	}
	s, _ := score.Play(f, 0, points)
	return s.Board
}

// randomDepot returns a depot with few days, so that much comes on the same ones, and some of the last day.
func randomDepot(r *rand.Rand) api.Depot {
	stock := 1 + r.IntN(50)
	d := api.Depot{Kit: api.Kit{Each: r.IntN(4), Towels: r.IntN(4), Frames: r.IntN(4)}}
	for range 3 {
		d.Stock = append(d.Stock, r.IntN(stock))
	}
	day := func() int {
		if r.IntN(6) == 0 {
			return api.MaxDay
		}
		return r.IntN(5)
	}
	for range r.IntN(8) {
		f := randomFormat(r, 3)
		d.Fixtures = append(d.Fixtures, api.Fixture{Day: day(), Format: f, Board: randomBoard(r, f)})
	}
	for range r.IntN(5) {
		d.Crates = append(d.Crates, api.Crate{Day: day(), Item: r.IntN(3), Count: r.IntN(20)})
	}
	return d
}

// eachDepot calls a function with random depots.
func eachDepot(t *testing.T, times uint64, do func(t *testing.T, r *rand.Rand, d api.Depot)) {
	t.Helper()
	for seed := range times {
		r := random(seed)
		d := randomDepot(r)
		if e := balls.Check(d); e != api.OK {
			t.Fatalf("seed %d: Check of %+v: %d", seed, d, e)
		}
		do(t, r, d)
		if t.Failed() {
			t.Fatalf("seed %d: %+v", seed, d)
		}
	}
}

// setsBegun returns how many sets of a board have begun.
func setsBegun(b api.Board) int {
	if sum(b.Games)+sum(b.Points) > 0 {
		return len(b.Sets) + 1
	}
	return len(b.Sets)
}

// players returns how many players a match has.
func players(f api.Format) int {
	if f.Doubles {
		return 4
	}
	return 2
}

// widened returns the least span with all of another one and a number; with nothing if the other one is nil.
func widened(s *api.Span, n int) *api.Span {
	if s == nil {
		return &api.Span{Low: n, High: n}
	}
	return &api.Span{Low: min(s.Low, n), High: max(s.High, n)}
}

// afterGame returns points with those of one more game, all won by a side.
func afterGame(f api.Format, points []int, side int) []int {
	before, _ := score.Games(f, 0, points)
	points = slices.Clone(points)
	for {
		points = append(points, side)
		if l, e := score.Games(f, 0, points); e != api.OK || len(l) > len(before) {
			return points
		}
	}
}

// standing is what matters of a match that has come to the end of a game: what was counted so far, and what tells how it can go on.
type standing struct {
	won, games    api.Pair
	sets, balls   int
	played        int
	lately, later bool
}

// standingOf returns the standing of points, and whether the match is over.
func standingOf(f api.Format, points []int) (st standing, over bool) {
	s, _ := score.Play(f, 0, points)
	l, _ := score.Games(f, 0, points)
	for _, p := range s.Board.Sets {
		if p.A > p.B {
			st.won.A++
		} else {
			st.won.B++
		}
	}
	st.games, st.sets, st.balls, st.played = s.Board.Games, setsBegun(s.Board), s.Balls, len(l)
	if n := len(l); n > 0 {
		st.lately, st.later = l[n-1].Tie, n > 1 && l[n-2].Tie
	}
	return st, s.Winner != -1
}

// restBy returns what Rest is of the board of some points: it plays all courses to their ends, but for the points of games, and of those with the same standing just one.
func restBy(f api.Format, points []int) (changes, sets api.Span) {
	start, _ := score.Play(f, 0, points)
	var c, s *api.Span
	known := map[standing]bool{}
	for l := [][]int{points}; len(l) > 0; {
		points := l[0]
		l = l[1:]
		st, over := standingOf(f, points)
		switch {
		case over:
			c, s = widened(c, st.balls-start.Balls), widened(s, len(endOf(f, points).Sets)-setsBegun(start.Board))
		case !known[st]:
			known[st] = true
			l = append(l, afterGame(f, points, 0), afterGame(f, points, 1))
		}
	}
	return *c, *s
}

// endOf returns the board of points.
func endOf(f api.Format, points []int) api.Board {
	s, _ := score.Play(f, 0, points)
	return s.Board
}

// crateOf returns how much of an item comes on a day.
func crateOf(d api.Depot, item, day int) int {
	n := 0
	for _, c := range d.Crates {
		if c.Item == item && c.Day == day {
			n += c.Count
		}
	}
	return n
}

// needBy returns what Need is, by the chapter's words, of what Rest returns.
func needBy(t *testing.T, d api.Depot, item, day int) api.Span {
	t.Helper()
	var out api.Span
	for _, f := range d.Fixtures {
		if f.Day != day {
			continue
		}
		changes, sets, e := balls.Rest(f.Format, f.Board)
		if e != api.OK {
			t.Fatalf("Rest of %+v: %d", f, e)
		}
		n, begun := players(f.Format), setsBegun(f.Board) > 0
		switch {
		case item == 0:
			out.Low += changes.Low * d.Kit.Each
			out.High += changes.High * d.Kit.Each
			if !begun {
				out.Low += d.Kit.Each
				out.High += d.Kit.Each
			}
		case item == 1:
			out.Low += sets.Low * n * d.Kit.Towels
			out.High += sets.High * n * d.Kit.Towels
		case !begun:
			out.Low += n * d.Kit.Frames
			out.High += n * d.Kit.Frames
		}
	}
	return out
}

// allNeeds returns Need of an item on each day, as the program tells it.
func allNeeds(t *testing.T, d api.Depot, item int) []api.Span { return eachDay(t, d, item, balls.Need) }

// allLefts returns Left of an item on each day, as the program tells it.
func allLefts(t *testing.T, d api.Depot, item int) []api.Span { return eachDay(t, d, item, balls.Left) }

func eachDay(t *testing.T, d api.Depot, item int, of func(d api.Depot, item, day int) (api.Span, api.Errno)) []api.Span {
	t.Helper()
	var out []api.Span
	for day := range api.MaxDay + 1 {
		s, e := of(d, item, day)
		if e != api.OK {
			t.Fatalf("item %d, day %d: %d", item, day, e)
		}
		out = append(out, s)
	}
	return out
}
