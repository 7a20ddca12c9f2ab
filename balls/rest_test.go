package balls_test

import (
	"testing"

	"deuce/api"
	"deuce/balls"
	"deuce/score"
)

// P9.2: TestRest: the changes that come, and the sets that have not begun, counted by hand.
func TestRest(t *testing.T) {
	once := like(func(f *api.Format) { f.First, f.Then = 1, 0 })
	each := like(func(f *api.Format) { f.First, f.Then = 1, 1 })
	three := like(func(f *api.Format) { f.Sets = 3 })
	// New balls are due before the game 2 only: it is the third tie-break, so that they are changed before the game 4, if the last set comes.
	late := api.Format{Sets: 3, Games: 2, Tie: 0, To: 1, LastTie: 2, LastTo: 2, First: 2}
	// New balls are due before the game 4, which may be a tie-break.
	ties := like(func(f *api.Format) { f.First, f.Then = 4, 0 })
	both := like(func(f *api.Format) { f.First, f.Then = 4, 2 })
	for name, x := range map[string]struct {
		f             api.Format
		b             api.Board
		changes, sets api.Span
	}{
		"the example":                     {short(), in(pair(3, 1), pair(0, 1)), span(0, 1), span(0, 1)},
		"not begun":                       {short(), in(), span(1, 3), span(2, 3)},
		"no sets":                         {short(), api.Board{Sets: []api.Pair{}}, span(1, 3), span(2, 3)},
		"a point":                         {short(), atPoints(in(), 0, 1), span(1, 3), span(1, 2)},
		"a game":                          {short(), in(pair(0, 1)), span(1, 3), span(1, 2)},
		"the change has come":             {short(), in(pair(1, 1)), span(1, 2), span(1, 2)},
		"a set":                           {short(), in(pair(3, 2), pair(0, 0)), span(1, 2), span(1, 2)},
		"a set, and a point":              {short(), atPoints(in(pair(3, 2), pair(0, 0)), 0, 1), span(1, 2), span(0, 1)},
		"the last set":                    {short(), in(pair(2, 0), pair(0, 2), pair(0, 0)), span(0, 0), span(1, 1)},
		"in the last set":                 {short(), atPoints(in(pair(2, 0), pair(0, 2), pair(0, 0)), 3, 3), span(0, 0), span(0, 0)},
		"over":                            {short(), in(pair(2, 0), pair(2, 0), pair(0, 0)), span(0, 0), span(0, 0)},
		"over, in three sets":             {short(), in(pair(2, 0), pair(0, 2), pair(0, 1), pair(0, 0)), span(0, 0), span(0, 0)},
		"three sets to win":               {three, in(), span(2, 7), span(3, 5)},
		"three to win, one each":          {three, in(pair(2, 0), pair(0, 2), pair(0, 0)), span(1, 3), span(2, 3)},
		"three to win, two to none":       {three, in(pair(0, 2), pair(0, 2), pair(0, 0)), span(0, 3), span(1, 3)},
		"once":                            {once, in(), span(1, 1), span(2, 3)},
		"once, it has come":               {once, in(pair(1, 0)), span(0, 0), span(1, 2)},
		"each game":                       {each, in(), span(3, 7), span(2, 3)},
		"for a tie-break that may come":   {ties, in(pair(2, 1)), span(1, 1), span(1, 2)},
		"for a tie-break that has come":   {ties, in(pair(2, 2)), span(1, 1), span(1, 2)},
		"usual":                           {usual(), in(), span(1, 4), span(2, 3)},
		"usual, set point":                {usual(), atPoints(in(pair(5, 0)), 3, 0), span(1, 4), span(1, 2)},
		"usual, the last game":            {usual(), in(pair(7, 6), pair(6, 7), pair(6, 6)), span(0, 0), span(0, 0)},
		"usual, the change has come":      {usual(), in(pair(6, 0), pair(1, 0)), span(0, 2), span(0, 1)},
		"usual, the change is about to":   {usual(), in(pair(6, 0), pair(0, 0)), span(1, 3), span(1, 2)},
		"tie-breaks, the last set":        {late, in(pair(1, 0), pair(1, 0), pair(0, 1), pair(0, 1), pair(0, 0)), span(0, 0), span(1, 1)},
		"tie-breaks, the last but one":    {late, in(pair(1, 0), pair(1, 0), pair(0, 1), pair(0, 0)), span(0, 1), span(1, 2)},
		"tie-breaks, it has no balls":     {late, in(pair(1, 0), pair(1, 0), pair(0, 0)), span(0, 1), span(1, 3)},
		"tie-breaks, not begun":           {late, in(), span(0, 1), span(3, 5)},
		"balls behind a tie-break":        {ties, in(pair(3, 2), pair(0, 0)), span(1, 1), span(1, 2)},
		"balls behind a tie-break came":   {ties, in(pair(3, 2), pair(1, 0)), span(0, 0), span(0, 1)},
		"both behind a tie-break":         {both, in(pair(3, 2), pair(0, 0)), span(1, 2), span(1, 2)},
		"balls behind no tie-break":       {ties, in(pair(3, 1), pair(0, 0)), span(0, 0), span(1, 2)},
		"balls behind no tie-break, both": {both, in(pair(3, 1), pair(0, 0)), span(0, 1), span(1, 2)},
	} {
		c, s, e := balls.Rest(x.f, x.b)
		if c != x.changes || s != x.sets || e != api.OK {
			t.Errorf("%s: Rest = %v, %v, %d instead of %v, %v", name, c, s, e, x.changes, x.sets)
		}
	}
}

// P9.2: TestAllCourses: Rest is what comes in all courses that go on from the points of a match.
func TestAllCourses(t *testing.T) {
	for name, f := range formats() {
		for seed := range uint64(4) {
			r := random(seed)
			points, over := randomMatch(r, f)
			if !over {
				t.Fatalf("%s, seed %d: no end", name, seed)
			}
			for n := range len(points) + 1 {
				if n > 0 && n < len(points) && r.IntN(8) > 0 {
					continue
				}
				s, _ := score.Play(f, 0, points[:n])
				changes, sets, e := balls.Rest(f, s.Board)
				c, d := restBy(f, points[:n])
				if changes != c || sets != d || e != api.OK {
					t.Errorf("%s: Rest of %v = %v, %v, %d instead of %v, %v", name, s.Board, changes, sets, e, c, d)
				}
			}
		}
	}
}

// P9.2: TestManyFormats: Rest of the beginning is what comes in all courses.
func TestManyFormats(t *testing.T) {
	for seed := range uint64(250) {
		f := randomFormat(random(seed), 4)
		changes, sets, e := balls.Rest(f, api.Board{})
		c, s := restBy(f, nil)
		if changes != c || sets != s || e != api.OK {
			t.Errorf("Rest of %+v = %v, %v, %d instead of %v, %v", f, changes, sets, e, c, s)
		}
	}
}
