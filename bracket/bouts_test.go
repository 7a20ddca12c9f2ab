package bracket_test

import (
	"slices"
	"testing"

	"deuce/api"
	"deuce/bracket"
)

const open, none = api.Unknown, api.Bye

// boutsOf makes matches of so many rounds, in their order, of their players.
func boutsOf(rounds int, players ...int) []api.Bout {
	var out []api.Bout
	for i, m := range placesOf(rounds) {
		out = append(out, api.Bout{Round: m.round, Place: m.place, One: players[2*i], Two: players[2*i+1]})
	}
	return out
}

// P7.2, P7.3, P7.6: TestBouts: all matches, those that can be played, and how many are left.
func TestBouts(t *testing.T) {
	for name, x := range map[string]struct {
		l     []api.Slip
		bouts []api.Bout
		ready []api.Bout
		left  int
	}{
		"no slips": {
			nil, boutsOf(3, 1, none, 2, 3, 4, 5, 6, 7, 1, open, open, open, open, open),
			[]api.Bout{{Place: 1, One: 2, Two: 3}, {Place: 2, One: 4, Two: 5}, {Place: 3, One: 6, Two: 7}}, 6,
		},
		"the example": {
			example(), boutsOf(3, 1, none, 2, 3, 8, 5, 6, 7, 1, 2, open, 7, 2, open),
			[]api.Bout{{Place: 2, One: 8, Two: 5}}, 3,
		},
		"one more": {
			example(slip(api.Default, 0, 2, 8)), boutsOf(3, 1, none, 2, 3, 8, 5, 6, 7, 1, 2, 8, 7, 2, open),
			[]api.Bout{{Round: 1, Place: 1, One: 8, Two: 7}}, 2,
		},
		"both of the last match": {
			example(slip(api.Walkover, 1, 1, 5)), boutsOf(3, 1, none, 2, 3, 8, 5, 6, 7, 1, 2, 5, 7, 2, 5),
			[]api.Bout{{Round: 2, One: 2, Two: 5}}, 1,
		},
		"the champion only": {
			[]api.Slip{played(2, 0, 6)}, boutsOf(3, 1, none, 2, 3, 4, 5, 6, 7, 1, open, open, 6, open, 6),
			[]api.Bout{{Place: 1, One: 2, Two: 3}, {Place: 2, One: 4, Two: 5}}, 3,
		},
		"a winner, and a loser behind a bye": {
			[]api.Slip{played(1, 0, 3)}, boutsOf(3, 1, none, 2, 3, 4, 5, 6, 7, 1, 3, open, open, 3, open),
			[]api.Bout{{Place: 2, One: 4, Two: 5}, {Place: 3, One: 6, Two: 7}}, 4,
		},
		"a lucky loser with a bye": {
			[]api.Slip{lucky(0, 9, 1), lucky(0, 0, 9), played(0, 1, 2)}, boutsOf(3, 0, none, 2, 3, 4, 5, 6, 7, 0, 2, open, open, open, open),
			[]api.Bout{{Place: 2, One: 4, Two: 5}, {Place: 3, One: 6, Two: 7}, {Round: 1, One: 0, Two: 2}}, 5,
		},
		"everything": {
			example(slip(api.Walkover, 2, 0, 5)), boutsOf(3, 1, none, 2, 3, 8, 5, 6, 7, 1, 2, 5, 7, 2, 5), nil, 0,
		},
	} {
		bouts, e := bracket.Bouts(three(), x.l)
		ready, f := bracket.Ready(three(), x.l)
		left, g := bracket.Left(three(), x.l)
		if !slices.Equal(bouts, x.bouts) || e != api.OK {
			t.Errorf("%s: Bouts = %v, %d", name, bouts, e)
		}
		if !slices.Equal(ready, x.ready) || f != api.OK {
			t.Errorf("%s: Ready = %v, %d", name, ready, f)
		}
		if left != x.left || g != api.OK {
			t.Errorf("%s: Left = %d, %d", name, left, g)
		}
	}
}

// P7.4, P7.5: TestWinner: who has won, and who can have.
func TestWinner(t *testing.T) {
	for i, x := range []struct {
		l      []api.Slip
		m      place
		winner number
		may    []int
	}{
		{example(), place{0, 0}, number{1, api.OK}, []int{1}},
		{example(), place{0, 1}, number{2, api.OK}, []int{2}},
		{example(), place{0, 2}, number{0, api.ErrNone}, []int{5, 8}},
		{example(), place{0, 3}, number{7, api.OK}, []int{7}},
		{example(), place{1, 0}, number{2, api.OK}, []int{2}},
		{example(), place{1, 1}, number{0, api.ErrNone}, []int{5, 7, 8}},
		{example(), place{2, 0}, number{0, api.ErrNone}, []int{2, 5, 7, 8}},
		{nil, place{0, 0}, number{1, api.OK}, []int{1}},
		{nil, place{0, 1}, number{0, api.ErrNone}, []int{2, 3}},
		{nil, place{1, 0}, number{0, api.ErrNone}, []int{1, 2, 3}},
		{nil, place{2, 0}, number{0, api.ErrNone}, []int{1, 2, 3, 4, 5, 6, 7}},
		{[]api.Slip{played(2, 0, 5)}, place{2, 0}, number{5, api.OK}, []int{5}},
		{[]api.Slip{played(2, 0, 5)}, place{1, 1}, number{5, api.OK}, []int{5}},
		{[]api.Slip{played(2, 0, 5)}, place{0, 2}, number{5, api.OK}, []int{5}},
		{[]api.Slip{played(2, 0, 5)}, place{0, 3}, number{0, api.ErrNone}, []int{6, 7}},
		{[]api.Slip{played(2, 0, 5)}, place{1, 0}, number{0, api.ErrNone}, []int{1, 2, 3}},
		{[]api.Slip{lucky(2, 0, 2), played(1, 0, 0)}, place{1, 0}, number{0, api.OK}, []int{0}},
	} {
		winner, e := bracket.Winner(three(), x.l, x.m.round, x.m.place)
		if (number{winner, e}) != x.winner {
			t.Errorf("%d: Winner = %d, %d", i, winner, e)
		}
		may, e := bracket.May(three(), x.l, x.m.round, x.m.place)
		if !slices.Equal(may, x.may) || e != api.OK {
			t.Errorf("%d: May = %v, %d", i, may, e)
		}
	}
}

// P7.7: TestReached: how many matches a player can have won in the end, byes among them.
func TestReached(t *testing.T) {
	champion := []api.Slip{played(2, 0, 8), lucky(4, 8, 4)}
	for i, x := range []struct {
		l      []api.Slip
		player int
		want   reach
	}{
		{example(), 1, reach{api.Span{Low: 1, High: 1}, api.OK}},
		{example(), 2, reach{api.Span{Low: 2, High: 3}, api.OK}},
		{example(), 3, reach{api.Span{}, api.OK}},
		{example(), 4, reach{api.Span{}, api.ErrNone}},
		{example(), 5, reach{api.Span{High: 3}, api.OK}},
		{example(), 6, reach{api.Span{}, api.OK}},
		{example(), 7, reach{api.Span{Low: 1, High: 3}, api.OK}},
		{example(), 8, reach{api.Span{High: 3}, api.OK}},
		{nil, 1, reach{api.Span{Low: 1, High: 3}, api.OK}},
		{nil, 4, reach{api.Span{High: 3}, api.OK}},
		{nil, 8, reach{api.Span{}, api.ErrNone}},
		{nil, 0, reach{api.Span{}, api.ErrNone}},
		{champion, 8, reach{api.Span{Low: 3, High: 3}, api.OK}},
		{champion, 1, reach{api.Span{Low: 1, High: 2}, api.OK}},
		{champion, 2, reach{api.Span{High: 2}, api.OK}},
		{champion, 5, reach{api.Span{}, api.OK}},
		{champion, 6, reach{api.Span{High: 1}, api.OK}},
	} {
		if span, e := bracket.Reached(three(), x.l, x.player); (reach{span, e}) != x.want {
			t.Errorf("%d: Reached of %d = %v, %d", i, x.player, span, e)
		}
	}
}

// P7.8: TestMeet: in which round two players can meet.
func TestMeet(t *testing.T) {
	for i, x := range []struct {
		l    []api.Slip
		a, b int
		want number
	}{
		{example(), 2, 8, number{2, api.OK}},
		{example(), 5, 7, number{1, api.OK}},
		{example(), 1, 2, number{1, api.OK}},
		{example(), 2, 3, number{0, api.OK}},
		{example(), 3, 7, number{0, api.ErrNone}},
		{example(), 3, 1, number{0, api.ErrNone}},
		{example(), 1, 7, number{0, api.ErrNone}},
		{example(), 6, 5, number{0, api.ErrNone}},
		{example(), 4, 5, number{0, api.ErrNone}},
		{example(), 6, 7, number{0, api.OK}},
		{example(), 1, 1, number{0, api.ErrArg}},
		{example(), 4, 4, number{0, api.ErrArg}},
		{example(), 99, 99, number{0, api.ErrArg}},
		{nil, 1, 7, number{2, api.OK}},
		{nil, 1, 3, number{1, api.OK}},
		{nil, 4, 5, number{0, api.OK}},
		{nil, 4, 6, number{1, api.OK}},
		{nil, 3, 4, number{2, api.OK}},
		{[]api.Slip{played(2, 0, 6)}, 6, 3, number{2, api.OK}},
		{[]api.Slip{played(2, 0, 6)}, 7, 3, number{0, api.ErrNone}},
		{[]api.Slip{played(2, 0, 6)}, 4, 6, number{1, api.OK}},
	} {
		for _, y := range [][2]int{{x.a, x.b}, {x.b, x.a}} {
			if round, e := bracket.Meet(three(), x.l, y[0], y[1]); (number{round, e}) != x.want {
				t.Errorf("%d: Meet of %v = %d, %d", i, y, round, e)
			}
		}
	}
}

// P7.2 to P7.8: TestLargest: the draw with the most rounds.
func TestLargest(t *testing.T) {
	l := []api.Slip{played(4, 0, 30), played(3, 0, 9), lucky(17, 99, 17), played(1, 4, 99)}
	bouts, e := bracket.Bouts(largest(), l)
	if len(bouts) != 31 || e != api.OK {
		t.Fatalf("Bouts = %v, %d", bouts, e)
	}
	for i, want := range map[int]api.Bout{
		0:  {Round: 0, Place: 0, One: 0, Two: 1},
		8:  {Round: 0, Place: 8, One: 16, Two: 99},
		14: {Round: 0, Place: 14, One: none, Two: 29},
		15: {Round: 0, Place: 15, One: 30, Two: none},
		18: {Round: 1, Place: 2, One: 9, Two: open},
		20: {Round: 1, Place: 4, One: 99, Two: open},
		23: {Round: 1, Place: 7, One: 29, Two: 30},
		25: {Round: 2, Place: 1, One: 9, Two: open},
		27: {Round: 2, Place: 3, One: open, Two: 30},
		29: {Round: 3, Place: 1, One: open, Two: 30},
		30: {Round: 4, Place: 0, One: 9, Two: 30},
	} {
		if bouts[i] != want {
			t.Errorf("%d: %v", i, bouts[i])
		}
	}
	// Two byes, four matches of 30, as many of 9, and two of 99 are sure.
	if left, e := bracket.Left(largest(), l); left != 31-2-4-4-2 || e != api.OK {
		t.Errorf("Left = %d, %d", left, e)
	}
	if may, e := bracket.May(largest(), l, 2, 2); !slices.Equal(may, []int{20, 21, 22, 23, 99}) || e != api.OK {
		t.Errorf("May = %v, %d", may, e)
	}
	if span, e := bracket.Reached(largest(), l, 30); span != (api.Span{Low: 5, High: 5}) || e != api.OK {
		t.Errorf("Reached = %v, %d", span, e)
	}
	if round, e := bracket.Meet(largest(), l, 31, 30); round != 0 || e != api.ErrNone {
		t.Errorf("Meet = %d, %d", round, e)
	}
	if round, e := bracket.Meet(largest(), l, 9, 30); round != 4 || e != api.OK {
		t.Errorf("Meet = %d, %d", round, e)
	}
	if round, e := bracket.Meet(largest(), l, 99, 30); round != 3 || e != api.OK {
		t.Errorf("Meet = %d, %d", round, e)
	}
}
