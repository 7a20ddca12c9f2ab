package card_test

import (
	"math/rand/v2"
	"slices"
	"testing"

	"deuce/api"
	"deuce/card"
)

// lacks reports whether boards are missing among other ones.
func lacks(all, l []api.Board) bool {
	return slices.ContainsFunc(l, func(b api.Board) bool {
		_, found := slices.BinarySearchFunc(all, numbers(b), func(a api.Board, n []int) int { return slices.Compare(numbers(a), n) })
		return !found
	})
}

// eachTrue calls a function with matches of all formats, and cards on which all is true of them.
func eachTrue(t *testing.T, times uint64, most int, do func(t *testing.T, r *rand.Rand, c api.Card, m match)) {
	t.Helper()
	for name, f := range formats() {
		for seed := range times {
			r := random(seed)
			c, m := noteAll(r, f, randomMatch(r, f, r.IntN(most+1)))
			do(t, r, c, m)
			if t.Failed() {
				t.Fatalf("%s, seed %d: first %d, marks %v", name, seed, c.First, c.Marks)
			}
		}
	}
}

// P0.1, P3.8: TestTrueMatch: a card of marks that are true of a match is possible, and its board and number of points are among those of the card; what is sure is true of it.
func TestTrueMatch(t *testing.T) {
	sure := 0
	eachTrue(t, 60, 40, func(t *testing.T, r *rand.Rand, c api.Card, m match) {
		s, _ := m.score(c.Format)
		if n, e := card.First(c); n != -1 || e != api.OK {
			t.Errorf("First = %d, %d", n, e)
		}
		if l, e := card.Boards(c); e != api.OK || lacks(l, []api.Board{s.Board}) {
			t.Errorf("Boards = %v, %d, without %v", l, e, s.Board)
		}
		if n, e := card.Count(c); e != api.OK || len(m.points) < n.Low || len(m.points) > n.High {
			t.Errorf("Count = %v, %d, without %d", n, e, len(m.points))
		}
		if n, e := card.Fewest(c); n != 0 || e != api.OK {
			t.Errorf("Fewest = %d, %d", n, e)
		}
		if first, points, e := card.Show(c); e != api.OK || !isOf(c, match{first, points}) {
			t.Errorf("Show = %d, %v, %d", first, points, e)
		}
		for _, x := range furtherMarks(r, c.Format, []match{m}) {
			is, e := card.Sure(c, x)
			if e != api.OK || is && !isTrue(x, s) {
				t.Errorf("Sure of %v = %v, %d", x, is, e)
			}
			if is {
				sure++
			}
		}
	})
	if sure < 1000 {
		t.Errorf("just %d marks are sure", sure)
	}
}

// P3.9: TestShown: the marks are true of the match that is shown, whose board is one of the boards; with the sets, and the games or points of a board added, a card is possible.
func TestShown(t *testing.T) {
	eachCard(t, 40, func(t *testing.T, r *rand.Rand, c api.Card) {
		first, points, e := card.Show(c)
		l, f := card.Boards(c)
		if e != f {
			t.Fatalf("Show: %d, Boards: %d", e, f)
		}
		if e != api.OK {
			return
		}
		s, is := match{first, points}.score(c.Format)
		if !is || !isOf(c, match{first, points}) || lacks(l, []api.Board{s.Board}) {
			t.Errorf("Show = %d, %v, of the boards %v", first, points, l)
		}
		for _, b := range l {
			if len(c.Marks) == api.MaxMarks {
				break
			}
			x := api.Note{Kind: api.Points, Pair: b.Points}
			if b.Points == zero {
				x = api.Note{Kind: api.Games, Pair: b.Games}
			}
			if k, e := card.Boards(more(c, x)); e != api.OK || lacks(k, []api.Board{b}) || lacks(l, k) {
				t.Errorf("with %v: Boards = %v, %d, without %v, of %v", x, k, e, b, l)
			}
		}
	})
}

// P3.10: TestFirstFalse: the marks before First have a match, and with this mark there is none.
func TestFirstFalse(t *testing.T) {
	eachCard(t, 40, func(t *testing.T, r *rand.Rand, c api.Card) {
		n, e := card.First(c)
		if e != api.OK || n < -1 || n >= len(c.Marks) {
			t.Fatalf("First = %d, %d", n, e)
		}
		for k := range len(c.Marks) + 1 {
			possible := n == -1 || k <= n
			want := n
			if possible {
				want = -1
			}
			if m, e := card.First(upTo(c, k)); m != want || e != api.OK {
				t.Errorf("First of %d marks = %d, %d; of all = %d", k, m, e, n)
			}
			if _, _, e := card.Show(upTo(c, k)); possible != (e == api.OK) {
				t.Errorf("Show of %d marks: %d; First = %d", k, e, n)
			}
		}
	})
}

// P3.11: TestSureMark: a sure mark is true of the match that is shown; with it a card has the same boards.
func TestSureMark(t *testing.T) {
	eachCard(t, 25, func(t *testing.T, r *rand.Rand, c api.Card) {
		first, points, e := card.Show(c)
		if e != api.OK || len(c.Marks) == api.MaxMarks {
			return
		}
		s, _ := match{first, points}.score(c.Format)
		l, _ := card.Boards(c)
		for _, x := range furtherMarks(r, c.Format, []match{{first, points}}) {
			is, e := card.Sure(c, x)
			if e != api.OK || is && !isTrue(x, s) {
				t.Errorf("Sure of %v = %v, %d, by %d, %v", x, is, e, first, points)
			}
			k, e := card.Boards(more(c, x))
			if is && (e != api.OK || !sameBoards(k, l)) || lacks(l, k) {
				t.Errorf("with %v, sure %v: Boards = %v, %d; without it %v", x, is, k, e, l)
			}
		}
	})
}

// P3.12: TestFewestWithout: a card without one of its marks has fewer wrong ones by 1, or as many; if there are any, there is one without which there are fewer.
func TestFewestWithout(t *testing.T) {
	wrong := 0
	eachCard(t, 20, func(t *testing.T, r *rand.Rand, c api.Card) {
		n, e := card.Fewest(c)
		first, _ := card.First(c)
		if e != api.OK || (n == 0) != (first == -1) {
			t.Fatalf("Fewest = %d, %d; First = %d", n, e, first)
		}
		less := false
		for i, x := range c.Marks {
			m, e := card.Fewest(without(c, i))
			if e != api.OK || m < n-1 || x.Kind >= api.Points && m > n {
				t.Errorf("Fewest = %d; without the mark %d it is %d, %d", n, i, m, e)
			}
			less = less || m < n
		}
		if n > 0 {
			wrong++
		}
		if n > 0 && !less {
			t.Errorf("Fewest = %d, and it is so without any mark", n)
		}
	})
	if wrong < 50 {
		t.Errorf("just %d cards are not possible", wrong)
	}
}

// P3.13: TestKnowLess: with more points that may be missed, or a side that is not known, no board is lost.
func TestKnowLess(t *testing.T) {
	eachCard(t, 25, func(t *testing.T, r *rand.Rand, c api.Card) {
		l, _ := card.Boards(c)
		for i, x := range c.Marks {
			switch x.Kind {
			case api.Noted:
				x.Side = -1
			case api.Missed:
				x.Pair = pair(max(x.Pair.A-r.IntN(3), 0), min(x.Pair.B+r.IntN(3), api.MaxMissed))
			default:
				continue
			}
			if k, _ := card.Boards(with(c, i, x)); lacks(k, l) {
				t.Errorf("with %v instead of the mark %d: Boards = %v, without some of %v", x, i, k, l)
			}
		}
		if c.First = -1; lacks(boardsOrNone(c), l) {
			t.Errorf("Boards without the first server lack some of %v", l)
		}
	})
}

// boardsOrNone returns the boards of a card, none if it is not possible.
func boardsOrNone(c api.Card) []api.Board {
	l, _ := card.Boards(c)
	return l
}

// otherSides returns a card with sides exchanged.
func otherSides(c api.Card) api.Card {
	if c.First >= 0 {
		c.First = 1 - c.First
	}
	c.Marks = slices.Clone(c.Marks)
	for i, x := range c.Marks {
		switch x.Kind {
		case api.Noted, api.Serves, api.Over:
			if x.Side >= 0 {
				c.Marks[i].Side = 1 - x.Side
			}
		case api.Points, api.Games, api.Sets:
			c.Marks[i].Pair = pair(x.Pair.B, x.Pair.A)
		}
	}
	return c
}

// swapped returns boards with sides exchanged, in ascending order.
func swapped(l []api.Board) []api.Board {
	var out []api.Board
	for _, b := range l {
		var sets []api.Pair
		for _, p := range b.Sets {
			sets = append(sets, pair(p.B, p.A))
		}
		out = append(out, api.Board{Sets: sets, Games: pair(b.Games.B, b.Games.A), Points: pair(b.Points.B, b.Points.A)})
	}
	return inOrder(out)
}

// P3.14: TestSides: with sides exchanged a card has the boards with sides exchanged, and the same numbers.
func TestSides(t *testing.T) {
	eachCard(t, 60, func(t *testing.T, r *rand.Rand, c api.Card) {
		d := otherSides(c)
		l, e := card.Boards(c)
		m, f := card.Boards(d)
		if !sameBoards(m, swapped(l)) || e != f {
			t.Errorf("Boards = %v, %d, and %v, %d", l, e, m, f)
		}
		n, _ := card.First(c)
		if k, _ := card.First(d); k != n {
			t.Errorf("First = %d, and %d", n, k)
		}
		s, _ := card.Count(c)
		if k, _ := card.Count(d); k != s {
			t.Errorf("Count = %v, and %v", s, k)
		}
		n, _ = card.Fewest(c)
		if k, _ := card.Fewest(d); k != n {
			t.Errorf("Fewest = %d, and %d", n, k)
		}
		for side := range 2 {
			is, _ := card.Sure(c, serves(side))
			if also, _ := card.Sure(d, serves(1-side)); is != also {
				t.Errorf("Sure = %v, and %v", is, also)
			}
		}
	})
}
