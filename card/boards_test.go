package card_test

import (
	"slices"
	"testing"

	"deuce/api"
	"deuce/card"
)

// board is a board without sets.
func board(games, points api.Pair) api.Board { return api.Board{Games: games, Points: points} }

// in is a board with no games in the set in play.
func in(points api.Pair, sets ...api.Pair) api.Board { return api.Board{Sets: sets, Points: points} }

var zero = api.Pair{}

// ties is a format of nothing but short tie-breaks.
func ties() api.Format {
	return api.Format{Sets: 2, Games: 1, To: 1, LastTo: 1}
}

// game is the format of a match that is just one tie-break.
func game(to int) api.Format {
	return api.Format{Sets: 1, Games: 1, To: 1, LastTo: to}
}

// P3.2 to P3.5, P3.7: TestCards: the examples, and other cards that can be read by hand.
func TestCards(t *testing.T) {
	love := times(4, noted(0))
	set := times(8, noted(0))
	for name, x := range map[string]struct {
		c     api.Card
		want  []api.Board
		count api.Span
	}{
		"the example":            {example(5), []api.Board{board(pair(1, 0), zero)}, api.Span{Low: 5, High: 5}},
		"the first three marks":  {example(3), []api.Board{board(zero, pair(3, 1))}, api.Span{Low: 4, High: 4}},
		"no marks":               {of(0), []api.Board{{}}, api.Span{}},
		"no marks, nobody first": {of(-1), []api.Board{{}}, api.Span{}},
		"no points":              {of(1, serves(1), points(0, 0), games(0, 0), sets(0, 0), missed(0, 0)), []api.Board{{}}, api.Span{}},
		"a point of nobody":      {of(-1, noted(-1)), []api.Board{board(zero, pair(0, 1)), board(zero, pair(1, 0))}, api.Span{Low: 1, High: 1}},
		"which is told":          {of(-1, noted(-1), noted(1), points(0, 2)), []api.Board{board(zero, pair(0, 2))}, api.Span{Low: 2, High: 2}},
		"a game":                 {of(0, append(love, points(0, 0), games(1, 0))...), []api.Board{board(pair(1, 0), zero)}, api.Span{Low: 4, High: 4}},
		"a game by four or six":  {of(0, missed(4, 7), games(1, 0), points(0, 0)), []api.Board{board(pair(1, 0), zero)}, api.Span{Low: 4, High: 6}},
		"two games":              {of(0, missed(4, 8), points(0, 0), serves(0)), []api.Board{board(pair(1, 1), zero), in(zero, pair(0, 2)), in(zero, pair(2, 0))}, api.Span{Low: 8, High: 8}},
		"a set":                  {of(0, append(set, sets(1, 0), games(0, 0), points(0, 0))...), []api.Board{in(zero, pair(2, 0))}, api.Span{Low: 8, High: 8}},
		"a set, and a game":      {of(0, join(set, love, []api.Note{games(1, 0)})...), []api.Board{{Sets: []api.Pair{pair(2, 0)}, Games: pair(1, 0)}}, api.Span{Low: 12, High: 12}},
		"a match":                {of(0, join(set, set, []api.Note{over(0), sets(2, 0), games(0, 0), points(0, 0), missed(0, 3)})...), []api.Board{in(zero, pair(2, 0), pair(2, 0))}, api.Span{Low: 16, High: 16}},
	} {
		if n, e := card.First(x.c); n != -1 || e != api.OK {
			t.Errorf("%s: First = %d, %d", name, n, e)
		}
		if l, e := card.Boards(x.c); !sameBoards(l, x.want) || e != api.OK {
			t.Errorf("%s: Boards = %v, %d", name, l, e)
		}
		if s, e := card.Count(x.c); s != x.count || e != api.OK {
			t.Errorf("%s: Count = %v, %d", name, s, e)
		}
		if first, points, e := card.Show(x.c); e != api.OK || !isOf(x.c, match{first, points}) {
			t.Errorf("%s: Show = %d, %v, %d", name, first, points, e)
		}
		if n, e := card.Fewest(x.c); n != 0 || e != api.OK {
			t.Errorf("%s: Fewest = %d, %d", name, n, e)
		}
	}
}

// P3.3: TestOrder: boards are in ascending order, those with fewer sets first.
func TestOrder(t *testing.T) {
	won, lost := pair(1, 0), pair(0, 1)
	want := []api.Board{
		in(zero), in(pair(0, 1)), in(pair(1, 0)), in(pair(1, 1)), in(pair(1, 2)), in(pair(2, 1)), in(pair(2, 2)),
		in(zero, lost), in(pair(0, 1), lost), in(pair(1, 0), lost), in(pair(1, 1), lost), in(zero, lost, lost), in(zero, lost, won),
		in(zero, won), in(pair(0, 1), won), in(pair(1, 0), won), in(pair(1, 1), won), in(zero, won, lost), in(zero, won, won),
	}
	for _, first := range []int{-1, 0, 1} {
		l, e := card.Boards(api.Card{Format: ties(), First: first, Marks: []api.Note{missed(0, 4)}})
		if !sameBoards(l, want) || e != api.OK {
			t.Errorf("Boards = %v, %d", l, e)
		}
	}
	l, e := card.Boards(example(2))
	if len(l) != 12 || !sameBoard(l[0], board(zero, pair(1, 2))) || !sameBoard(l[11], board(won, pair(1, 0))) || e != api.OK {
		t.Errorf("Boards = %v, %d", l, e)
	}
	l, e = card.Boards(api.Card{Format: long(), First: -1, Marks: times(3, missed(20, 30))})
	if e != api.OK || len(l) < 1000 || !sameBoards(l, inOrder(slices.Clone(l))) {
		t.Errorf("%d boards, %d", len(l), e)
	}
}

// P3.5: TestCountOfTwo: the first two marks of the example.
func TestCountOfTwo(t *testing.T) {
	for n, want := range []api.Span{{}, {Low: 1, High: 1}, {Low: 3, High: 5}, {Low: 4, High: 4}, {Low: 5, High: 5}, {Low: 5, High: 5}} {
		if s, e := card.Count(example(n)); s != want || e != api.OK {
			t.Errorf("%d marks: Count = %v, %d", n, s, e)
		}
	}
}

// P3.2, P3.7: TestFirstAndFewest: the first mark that no match allows, and how many must be left out.
func TestFirstAndFewest(t *testing.T) {
	for name, x := range map[string]struct {
		c             api.Card
		first, fewest int
	}{
		"the example":             {example(5), -1, 0},
		"the wrong one":           {wrong(), 4, 1},
		"a wrong point":           {of(0, noted(0), points(0, 1)), 1, 1},
		"a point too few":         {of(0, points(1, 0), noted(0)), 0, 1},
		"one wrong among three":   {of(0, noted(0), points(0, 1), points(0, 2), points(1, 0)), 1, 2},
		"the point, not the call": {of(0, noted(0), points(0, 0), games(0, 0), sets(0, 0), serves(0)), 1, 1},
		"missed, not the calls":   {of(0, noted(0), missed(1, 1), points(1, 0), points(1, 0)), 2, 1},
		"all of them":             {of(0, over(0), over(1), serves(1)), 0, 3},
		"more points than shown":  {of(0, missed(3, 3), points(1, 1), points(2, 1), points(1, 2)), 1, 2},
		"behind a possible end":   {of(0, append(times(16, noted(0)), serves(0), serves(1), over(1))...), 16, 3},
		"a later end":             {of(0, append(times(16, noted(0)), noted(1), noted(-1), missed(2, 3))...), 16, 1},
		"a side and a game":       {of(-1, serves(0), missed(4, 4), games(1, 0), serves(0)), 3, 1},
		"who served first":        {of(-1, serves(1), serves(0), serves(0), serves(0)), 1, 1},
		"a set of three":          {of(0, append(times(8, noted(0)), sets(0, 1), sets(1, 1), sets(0, 0))...), 8, 3},
	} {
		if n, e := card.First(x.c); n != x.first || e != api.OK {
			t.Errorf("%s: First = %d, %d", name, n, e)
		}
		if n, e := card.Fewest(x.c); n != x.fewest || e != api.OK {
			t.Errorf("%s: Fewest = %d, %d", name, n, e)
		}
	}
}

// P3.6: TestSure: what is so behind all matches, and what is so behind some of them.
func TestSure(t *testing.T) {
	end := of(0, times(16, noted(0))...)
	for name, x := range map[string]struct {
		c    api.Card
		x    api.Note
		want bool
	}{
		"the server of the example":  {example(5), serves(1), true},
		"the other one":              {example(5), serves(0), false},
		"its games":                  {example(5), games(1, 0), true},
		"its points":                 {example(5), points(0, 0), true},
		"its sets, in a set":         {example(5), sets(0, 0), false},
		"its games, in a game":       {example(3), games(0, 0), false},
		"games that may be":          {example(2), games(1, 0), false},
		"points that may be":         {example(2), points(3, 1), false},
		"a server that may be":       {of(-1), serves(0), false},
		"a server that was told":     {of(-1, serves(1)), serves(1), true},
		"told, and another game":     {of(-1, serves(1), missed(4, 4), games(0, 1)), serves(0), true},
		"at the beginning":           {of(-1), sets(0, 0), true},
		"no games at the beginning":  {of(-1), games(0, 0), true},
		"no points at the beginning": {of(-1), points(0, 0), true},
		"a set":                      {of(-1, times(8, noted(1))...), sets(0, 1), true},
		"a set of the other side":    {of(-1, times(8, noted(1))...), sets(1, 0), false},
		"games behind a set":         {of(-1, times(8, noted(1))...), games(0, 0), true},
		"not over":                   {of(-1, times(8, noted(1))...), over(1), false},
		"over":                       {end, over(0), true},
		"over, by the other side":    {end, over(1), false},
		"nobody serves at the end":   {end, serves(0), false},
		"neither the other one":      {end, serves(1), false},
		"sets at the end":            {end, sets(2, 0), true},
		"games at the end":           {end, games(0, 0), true},
		"points at the end":          {end, points(0, 0), true},
		"numbers that are too large": {example(5), points(40, 40), false},
		"too many sets":              {end, sets(40, 0), false},
		"doubtful, but over":         {more(of(-1, times(15, noted(0))...), missed(1, 9), over(0)), sets(2, 0), true},
	} {
		if is, e := card.Sure(x.c, x.x); is != x.want || e != api.OK {
			t.Errorf("%s: Sure = %v, %d", name, is, e)
		}
	}
}

// P3.6: TestTieBreakServers: in a tie-break the servers change behind the first point, then behind each two.
func TestTieBreakServers(t *testing.T) {
	for n := range 15 {
		c := api.Card{Format: game(15), First: 1, Marks: times(n, noted(-1))}
		side := 1 - (n+1)/2%2
		for other := range 2 {
			if is, e := card.Sure(c, serves(other)); is != (other == side) || e != api.OK {
				t.Errorf("%d points: Sure of %d = %v, %d", n, other, is, e)
			}
		}
	}
	// The tie-break at 2 2 is the game 4: the game behind it is served by the side that did not begin it.
	for first := range 2 {
		love := [][]api.Note{{missed(16, 16), games(2, 2), serves(first)}, {noted(1)}, {serves(1 - first), noted(1), serves(1 - first), noted(1)}, {sets(0, 1)}}
		c := of(first, join(love...)...)
		if is, e := card.Sure(c, serves(1-first)); !is || e != api.OK {
			t.Errorf("first %d: Sure = %v, %d", first, is, e)
		}
	}
}

// P3.3, P3.6: TestDoubles: neither doubles nor balls change what a card says.
func TestDoubles(t *testing.T) {
	for i, c := range []api.Card{example(5), example(2), of(-1, missed(0, 17), serves(1)), of(1, append(times(16, noted(-1)), serves(1), missed(0, 3), serves(0))...)} {
		d := c
		d.Format.Doubles, d.Format.First, d.Format.Then = true, 0, 20
		l, _ := card.Boards(c)
		m, e := card.Boards(d)
		if !sameBoards(l, m) || e != api.OK {
			t.Errorf("%d: Boards = %v, %d, not %v", i, m, e, l)
		}
		for side := range 2 {
			is, _ := card.Sure(c, serves(side))
			if also, e := card.Sure(d, serves(side)); also != is || e != api.OK {
				t.Errorf("%d: Sure = %v, %d, not %v", i, also, e, is)
			}
		}
	}
}
