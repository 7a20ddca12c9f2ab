package card_test

import (
	"math/rand/v2"
	"slices"
	"strconv"
	"testing"

	"deuce/api"
	"deuce/card"
	"deuce/score"
)

func pair(a, b int) api.Pair { return api.Pair{A: a, B: b} }

func noted(side int) api.Note { return api.Note{Kind: api.Noted, Side: side} }

func missed(low, high int) api.Note { return api.Note{Kind: api.Missed, Pair: pair(low, high)} }

func points(a, b int) api.Note { return api.Note{Kind: api.Points, Pair: pair(a, b)} }

func games(a, b int) api.Note { return api.Note{Kind: api.Games, Pair: pair(a, b)} }

func sets(a, b int) api.Note { return api.Note{Kind: api.Sets, Pair: pair(a, b)} }

func serves(side int) api.Note { return api.Note{Kind: api.Serves, Side: side} }

func over(side int) api.Note { return api.Note{Kind: api.Over, Side: side} }

// times repeats a mark.
func times(n int, x api.Note) []api.Note { return slices.Repeat([]api.Note{x}, n) }

// join joins marks.
func join(l ...[]api.Note) []api.Note { return slices.Concat(l...) }

// short is the format F of the chapter's examples.
func short() api.Format {
	return api.Format{Sets: 2, Games: 2, Tie: 2, To: 3, LastTo: 4, First: 2, Then: 2}
}

// long is the format of a usual match.
func long() api.Format {
	return api.Format{Sets: 2, Games: 6, Tie: 6, To: 7, LastTie: 6, LastTo: 10, First: 7, Then: 9}
}

// of is a card of the format F.
func of(first int, marks ...api.Note) api.Card {
	return api.Card{Format: short(), First: first, Marks: marks}
}

// example is the first so many marks of C of the chapter's examples.
func example(n int) api.Card {
	return of(0, []api.Note{noted(0), missed(2, 4), points(3, 1), missed(1, 1), games(1, 0)}[:n]...)
}

// wrong is D of the examples.
func wrong() api.Card { return more(example(4), games(0, 1)) }

// more returns a card with more marks.
func more(c api.Card, l ...api.Note) api.Card {
	c.Marks = slices.Concat(c.Marks, l)
	return c
}

// upTo returns a card with just its first marks.
func upTo(c api.Card, n int) api.Card {
	c.Marks = slices.Clone(c.Marks[:n])
	return c
}

// without returns a card without one of its marks.
func without(c api.Card, i int) api.Card {
	c.Marks = slices.Delete(slices.Clone(c.Marks), i, i+1)
	return c
}

// with returns a card with another mark instead of one.
func with(c api.Card, i int, x api.Note) api.Card {
	c.Marks = slices.Clone(c.Marks)
	c.Marks[i] = x
	return c
}

// match is the side that serves first, and points.
type match struct {
	first  int
	points []int
}

// score returns the score of a match, and whether it can have been played.
func (m match) score(f api.Format) (api.Score, bool) {
	s, e := score.Play(f, m.first, m.points)
	return s, e == api.OK
}

// text returns a text for a score and a number of points, the same one for the same ones.
func text(s api.Score, n int) string {
	out := strconv.Itoa(n) + "s" + strconv.Itoa(s.Server)
	for _, p := range append(slices.Clone(s.Board.Sets), s.Board.Games, s.Board.Points) {
		out += " " + strconv.Itoa(p.A) + ":" + strconv.Itoa(p.B)
	}
	return out
}

// further returns matches that go on from other ones by a point: by a side, or by any one if it is -1. Of matches with the same score and number of points just one is returned.
func further(f api.Format, l []match, side int) []match {
	var out []match
	for _, m := range l {
		for winner := range 2 {
			if side == -1 || side == winner {
				out = append(out, match{m.first, append(slices.Clone(m.points), winner)})
			}
		}
	}
	return distinct(f, out)
}

// distinct returns just one of the matches with the same first side, score and number of points, and none that cannot be played.
func distinct(f api.Format, l []match) []match {
	var out []match
	known := map[string]bool{}
	for _, m := range l {
		s, is := m.score(f)
		name := strconv.Itoa(m.first) + text(s, len(m.points))
		if is && !known[name] {
			known[name] = true
			out = append(out, m)
		}
	}
	return out
}

// isTrue reports whether a mark of the kinds 3 to 7 is true of a score.
func isTrue(x api.Note, s api.Score) bool {
	begun := s.Board.Points != pair(0, 0)
	switch x.Kind {
	case api.Points:
		return s.Board.Points == x.Pair
	case api.Games:
		return s.Board.Games == x.Pair && !begun
	case api.Sets:
		var won api.Pair
		for _, p := range s.Board.Sets {
			if p.A > p.B {
				won.A++
			} else {
				won.B++
			}
		}
		return won == x.Pair && s.Board.Games == pair(0, 0) && !begun
	case api.Serves:
		return s.Server == x.Side || s.Server == x.Side+2
	case api.Over:
		return s.Winner == x.Side
	}
	return false
}

// byMark returns the matches that go on from other ones by a mark, just one of those with the same score and number of points.
func byMark(f api.Format, l []match, x api.Note) []match {
	switch x.Kind {
	case api.Noted:
		return further(f, l, x.Side)
	case api.Missed:
		var out []match
		for n := range x.Pair.B + 1 {
			if n >= x.Pair.A {
				out = append(out, l...)
			}
			l = further(f, l, -1)
		}
		return distinct(f, out)
	}
	return slices.DeleteFunc(slices.Clone(l), func(m match) bool {
		s, _ := m.score(f)
		return !isTrue(x, s)
	})
}

// matches returns the matches of a card, one for each score and number of points; if there are none, also the first mark up to which there are none (-1 otherwise).
func matches(c api.Card) (l []match, first int) {
	for side := range 2 {
		if c.First == -1 || c.First == side {
			l = append(l, match{first: side})
		}
	}
	for i, x := range c.Marks {
		l = byMark(c.Format, l, x)
		if len(l) == 0 {
			return nil, i
		}
	}
	return l, -1
}

// boardsOf returns the boards of matches, each once, in ascending order.
func boardsOf(f api.Format, l []match) []api.Board {
	var out []api.Board
	for _, m := range l {
		s, _ := m.score(f)
		out = append(out, s.Board)
	}
	return inOrder(out)
}

// inOrder returns boards in ascending order, each once.
func inOrder(l []api.Board) []api.Board {
	slices.SortFunc(l, func(a, b api.Board) int { return slices.Compare(numbers(a), numbers(b)) })
	return slices.CompactFunc(l, sameBoard)
}

// numbers returns the numbers of a board, with a number below all others where there are no more sets.
func numbers(b api.Board) []int {
	var out []int
	for i := range 2*api.MaxSets - 1 {
		if i < len(b.Sets) {
			out = append(out, b.Sets[i].A, b.Sets[i].B)
		} else {
			out = append(out, -1, -1)
		}
	}
	return append(out, b.Games.A, b.Games.B, b.Points.A, b.Points.B)
}

func sameBoard(a, b api.Board) bool { return slices.Equal(numbers(a), numbers(b)) }

func sameBoards(a, b []api.Board) bool { return slices.EqualFunc(a, b, sameBoard) }

// isOf reports whether a match is one of a card.
func isOf(c api.Card, m match) bool {
	if _, is := m.score(c.Format); !is || c.First != -1 && c.First != m.first || m.first != 0 && m.first != 1 {
		return false
	}
	// The numbers of points at which the marks read so far can end.
	at := map[int]bool{0: true}
	for _, x := range c.Marks {
		next := map[int]bool{}
		for n := range at {
			for end := n; end <= len(m.points); end++ {
				if is(c.Format, m, x, n, end) {
					next[end] = true
				}
			}
		}
		at = next
	}
	return at[len(m.points)]
}

// is reports whether a mark is true of a match from a number of points to another one.
func is(f api.Format, m match, x api.Note, from, to int) bool {
	switch x.Kind {
	case api.Noted:
		return to == from+1 && (x.Side == -1 || m.points[from] == x.Side)
	case api.Missed:
		return x.Pair.A <= to-from && to-from <= x.Pair.B
	}
	if to != from {
		return false
	}
	s, _ := match{m.first, m.points[:to]}.score(f)
	return isTrue(x, s)
}

// formats is valid formats of all sorts.
func formats() map[string]api.Format {
	change := func(do func(f *api.Format)) api.Format {
		f := short()
		do(&f)
		return f
	}
	return map[string]api.Format{
		"short":             short(),
		"long":              long(),
		"no advantage":      change(func(f *api.Format) { f.NoAd = true }),
		"doubles":           change(func(f *api.Format) { f.Doubles = true }),
		"early tie-break":   change(func(f *api.Format) { f.Tie, f.To = 1, 1 }),
		"late last tie":     change(func(f *api.Format) { f.LastTie, f.LastTo = 2, 1 }),
		"no tie-break":      change(func(f *api.Format) { f.Tie, f.NoAd = -1, true }),
		"no last tie-break": change(func(f *api.Format) { f.LastTie = -1 }),
		"one set":           {Sets: 1, Games: 2, Tie: -1, To: 3, LastTie: 2, LastTo: 1},
		"one set, one game": {Sets: 1, Games: 1, Tie: 0, To: 9, LastTie: 1, LastTo: 2},
		"one game":          {Sets: 2, Games: 1, Tie: 1, To: 2, LastTie: -1, LastTo: 1, Doubles: true},
		"tie-breaks only":   {Sets: 3, Games: 3, Tie: 0, To: 1, LastTie: 0, LastTo: 2, First: 1, Then: 1, Doubles: true},
		"long tie-breaks":   {Sets: 1, Games: 1, To: 1, LastTie: 0, LastTo: 15},
		"five sets":         {Sets: 3, Games: 1, Tie: 1, To: 1, LastTie: 1, LastTo: 15, NoAd: true},
	}
}

// random returns a source of the same numbers for the same seed.
func random(seed uint64) *rand.Rand { return rand.New(rand.NewPCG(seed, 3)) }

// randomMatch returns a match of so many points, or up to its end.
func randomMatch(r *rand.Rand, f api.Format, most int) match {
	m := match{first: r.IntN(2)}
	side := 0
	for len(m.points) < most {
		// Games that go to one side at a time lead further than even ones.
		if r.IntN(3) == 0 {
			side = 1 - side
		}
		longer := match{m.first, append(m.points, side)}
		if _, is := longer.score(f); !is {
			break
		}
		m = longer
	}
	return m
}

// trueMark returns a mark of the kinds 3 to 7 that is true of a score.
func trueMark(r *rand.Rand, s api.Score) api.Note {
	var won api.Pair
	for _, p := range s.Board.Sets {
		if p.A > p.B {
			won.A++
		} else {
			won.B++
		}
	}
	l := []api.Note{points(s.Board.Points.A, s.Board.Points.B), games(s.Board.Games.A, s.Board.Games.B), sets(won.A, won.B), serves(s.Server % 2), over(s.Winner)}
	l = slices.DeleteFunc(l, func(x api.Note) bool { return x.Side < 0 || !isTrue(x, s) })
	return l[r.IntN(len(l))]
}

// noteAll notes a match on a card, up to where the card is full: points with their sides or without them, ranges of points, and calls of the score. It returns the part of the match that is noted, too.
func noteAll(r *rand.Rand, f api.Format, m match) (api.Card, match) {
	c := api.Card{Format: f, First: m.first - r.IntN(2)*(m.first+1)}
	played := 0
	for len(c.Marks) < api.MaxMarks {
		left := len(m.points) - played
		n := min(1, left)
		switch kind := r.IntN(8); {
		case kind < 2 || left == 0 && kind < 7:
			s, _ := match{m.first, m.points[:played]}.score(f)
			c.Marks = append(c.Marks, trueMark(r, s))
			n = 0
		case kind == 7:
			n = min(r.IntN(4), left)
			c.Marks = append(c.Marks, missed(n-r.IntN(n+1), n+r.IntN(3)))
		case kind == 6:
			c.Marks = append(c.Marks, noted(-1))
		default:
			c.Marks = append(c.Marks, noted(m.points[played]))
		}
		played += n
		if left == 0 && r.IntN(2) == 0 {
			break
		}
	}
	return c, match{m.first, m.points[:played]}
}

// spoil returns a card of which some marks are others, which may be false.
func spoil(r *rand.Rand, c api.Card) api.Card {
	c.Marks = slices.Clone(c.Marks)
	for range r.IntN(3) {
		x := randomMark(r)
		if i := r.IntN(len(c.Marks) + 1); i < len(c.Marks) {
			c.Marks[i] = x
		}
	}
	return c
}

// randomMark returns any mark of small numbers.
func randomMark(r *rand.Rand) api.Note {
	a, b := r.IntN(4), r.IntN(4)
	l := []api.Note{noted(a%3 - 1), missed(min(a, b), max(a, b)), points(a, b), games(a, b), sets(a/2, b/2), serves(a % 2), over(a % 2)}
	return l[r.IntN(len(l))]
}

// randomCard returns a card of a match: true, or with marks that may be false.
func randomCard(r *rand.Rand, f api.Format) api.Card {
	c, _ := noteAll(r, f, randomMatch(r, f, 1+r.IntN(28)))
	if r.IntN(2) == 0 {
		return spoil(r, c)
	}
	return c
}

// eachCard calls a function with cards of all formats.
func eachCard(t *testing.T, times uint64, do func(t *testing.T, r *rand.Rand, c api.Card)) {
	t.Helper()
	for name, f := range formats() {
		for seed := range times {
			r := random(seed)
			c := randomCard(r, f)
			if e := card.Check(c); e != api.OK {
				t.Fatalf("%s, seed %d: Check = %d of %v", name, seed, e, c)
			}
			do(t, r, c)
			if t.Failed() {
				t.Fatalf("%s, seed %d: first %d, marks %v", name, seed, c.First, c.Marks)
			}
		}
	}
}
