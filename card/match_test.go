package card_test

import (
	"math/rand/v2"
	"testing"

	"deuce/api"
	"deuce/card"
)

// lengths returns the least and the greatest number of points of matches.
func lengths(l []match) api.Span {
	if len(l) == 0 {
		return api.Span{}
	}
	s := api.Span{Low: api.MaxPoints}
	for _, m := range l {
		s.Low, s.High = min(s.Low, len(m.points)), max(s.High, len(m.points))
	}
	return s
}

// P3.2 to P3.5: TestAllMatches: what a card says is what its matches say, played point by point.
func TestAllMatches(t *testing.T) {
	possible, all := 0, 0
	eachCard(t, 40, func(t *testing.T, r *rand.Rand, c api.Card) {
		l, first := matches(c)
		want := api.ErrNone
		if len(l) > 0 {
			want = api.OK
			possible++
		}
		all++
		if n, e := card.First(c); n != first || e != api.OK {
			t.Errorf("First = %d, %d, not %d", n, e, first)
		}
		if b, e := card.Boards(c); e != want || !sameBoards(b, boardsOf(c.Format, l)) {
			t.Errorf("Boards = %v, %d, not %v", b, e, boardsOf(c.Format, l))
		}
		if s, e := card.Count(c); e != want || s != lengths(l) {
			t.Errorf("Count = %v, %d, not %v", s, e, lengths(l))
		}
		first, points, e := card.Show(c)
		if e != want || e == api.OK && !isOf(c, match{first, points}) {
			t.Errorf("Show = %d, %v, %d", first, points, e)
		}
	})
	if possible < all/4 || possible > all*9/10 {
		t.Errorf("%d of %d cards are possible", possible, all)
	}
}

// furtherMarks returns marks of the kinds 3 to 7, some of which are true of a match of a card.
func furtherMarks(r *rand.Rand, f api.Format, l []match) []api.Note {
	out := []api.Note{points(0, 0), points(3, 1), games(0, 0), games(1, 0), sets(0, 0), sets(1, 0), serves(0), serves(1), over(0), over(1)}
	for range min(3, len(l)) {
		s, _ := l[r.IntN(len(l))].score(f)
		out = append(out, trueMark(r, s), points(s.Board.Points.A, s.Board.Points.B), games(s.Board.Games.A, s.Board.Games.B))
	}
	return out
}

// P3.6: TestSureOfAll: a mark is sure just if it is true behind each match.
func TestSureOfAll(t *testing.T) {
	sure := 0
	eachCard(t, 40, func(t *testing.T, r *rand.Rand, c api.Card) {
		l, _ := matches(c)
		for _, x := range furtherMarks(r, c.Format, l) {
			want, e := true, api.OK
			for _, m := range l {
				s, _ := m.score(c.Format)
				want = want && isTrue(x, s)
			}
			if len(l) == 0 {
				want, e = false, api.ErrNone
			}
			if want {
				sure++
			}
			if is, f := card.Sure(c, x); is != want || f != e {
				t.Errorf("Sure of %v = %v, %d, not %v", x, is, f, want)
			}
		}
	})
	if sure < 200 {
		t.Errorf("just %d marks are sure", sure)
	}
}

// fewest returns the least number of marks without which a card has a match: by the matches that there are when so many marks were left out.
func fewest(c api.Card) int {
	all, _ := matches(upTo(c, 0))
	left := [][]match{all}
	for _, x := range c.Marks {
		next := make([][]match, len(left)+1)
		for n, l := range left {
			next[n] = append(next[n], byMark(c.Format, l, x)...)
			next[n+1] = append(next[n+1], l...)
		}
		for n, l := range next {
			next[n] = distinct(c.Format, l)
		}
		left = next
	}
	n := 0
	for len(left[n]) == 0 {
		n++
	}
	return n
}

// P3.7: TestFewestOfAll: so many marks must be left out, and it is enough.
func TestFewestOfAll(t *testing.T) {
	seen := map[int]int{}
	for name, f := range formats() {
		for seed := range uint64(100) {
			r := random(seed)
			c, _ := noteAll(r, f, randomMatch(r, f, 1+r.IntN(7)))
			c = spoil(r, spoil(r, c))
			want := fewest(c)
			seen[want]++
			if n, e := card.Fewest(c); n != want || e != api.OK {
				t.Fatalf("%s, seed %d: Fewest = %d, %d, not %d: first %d, marks %v", name, seed, n, e, want, c.First, c.Marks)
			}
		}
	}
	for n := range 4 {
		if seen[n] < 10 {
			t.Errorf("for just %d cards Fewest is %d", seen[n], n)
		}
	}
}
