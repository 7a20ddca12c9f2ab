package card_test

import (
	"testing"

	"deuce/api"
	"deuce/card"
)

// P3.2 to P3.7: TestLongTieBreak: the numbers of a board of a card can be above MaxBoard.
func TestLongTieBreak(t *testing.T) {
	c := api.Card{Format: game(1), First: -1, Marks: times(30, missed(20, 20))}
	l, e := card.Boards(c)
	want := []api.Board{in(pair(300, 300)), in(zero, pair(0, 1)), in(zero, pair(1, 0))}
	if !sameBoards(l, want) || e != api.OK {
		t.Errorf("Boards = %v, %d", l, e)
	}
	if s, e := card.Count(c); s != (api.Span{Low: 600, High: 600}) || e != api.OK {
		t.Errorf("Count = %v, %d", s, e)
	}
	if first, points, e := card.Show(c); len(points) != 600 || !isOf(c, match{first, points}) || e != api.OK {
		t.Errorf("Show = %d, %v, %d", first, points, e)
	}
	if is, e := card.Sure(c, sets(1, 0)); is || e != api.OK {
		t.Errorf("Sure = %v, %d", is, e)
	}
	c.Marks = append(times(4, missed(20, 20)), points(40, 40), missed(0, 30), points(40, 40), noted(0))
	if l, e := card.Boards(c); !sameBoards(l, []api.Board{in(pair(41, 40))}) || e != api.OK {
		t.Errorf("Boards = %v, %d", l, e)
	}
	if is, e := card.Sure(c, points(40, 40)); is || e != api.OK {
		t.Errorf("Sure = %v, %d", is, e)
	}
	c.Marks[4] = points(40, 38)
	if n, e := card.First(c); n != 4 || e != api.OK {
		t.Errorf("First = %d, %d", n, e)
	}
	if n, e := card.Fewest(c); n != 1 || e != api.OK {
		t.Errorf("Fewest = %d, %d", n, e)
	}
}

// P3.2 to P3.5: TestLongSet: a set without a tie-break goes on beyond MaxBoard, too.
func TestLongSet(t *testing.T) {
	f := api.Format{Sets: 1, Games: 1, NoAd: true, Tie: -1, To: 1, LastTie: -1, LastTo: 1}
	c := api.Card{Format: f, First: 0, Marks: append(times(19, missed(0, 30)), games(40, 40))}
	if s, e := card.Count(c); s != (api.Span{Low: 320, High: 560}) || e != api.OK {
		t.Errorf("Count = %v, %d", s, e)
	}
	c.Marks = times(20, missed(30, 30))
	l, e := card.Boards(c)
	low, high := 600, 0
	for _, b := range l {
		if len(b.Sets) == 0 {
			n := b.Games.A + b.Games.B
			low, high = min(low, n), max(high, n)
		}
	}
	if low != 85 || high != 150 || e != api.OK {
		t.Errorf("from %d to %d games, %d", low, high, e)
	}
	if n, e := card.First(more(c, points(5, 3))); n != 20 || e != api.OK {
		t.Errorf("First = %d, %d", n, e)
	}
}

// P1: TestLarge: cards on which hundreds of points are missing, too, are read to their ends.
func TestLarge(t *testing.T) {
	c := api.Card{Format: short(), First: -1, Marks: append(times(29, missed(0, 20)), over(1))}
	if s, e := card.Count(c); s != (api.Span{Low: 16, High: 580}) || e != api.OK {
		t.Errorf("Count = %v, %d", s, e)
	}
	if is, e := card.Sure(c, sets(0, 2)); is || e != api.OK {
		t.Errorf("Sure = %v, %d", is, e)
	}
	if is, e := card.Sure(c, games(0, 0)); !is || e != api.OK {
		t.Errorf("Sure = %v, %d", is, e)
	}
	// A set has three scores for its winner, and the last one has just one, as it is a tie-break.
	if l, e := card.Boards(c); len(l) != 3*3+2*3*3 || e != api.OK {
		t.Errorf("%d boards, %d", len(l), e)
	}
	c.Marks = append(times(20, missed(30, 30)), append(times(4, over(0)), times(6, over(1))...)...)
	if n, e := card.Fewest(c); n != 4 || e != api.OK {
		t.Errorf("Fewest = %d, %d", n, e)
	}
	c.Format = long()
	c.Marks[20], c.Marks[21] = sets(1, 1), games(6, 6)
	if n, e := card.First(c); n != 21 || e != api.OK {
		t.Errorf("First = %d, %d", n, e)
	}
}
