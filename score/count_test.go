package score_test

import (
	"slices"
	"testing"

	"deuce/api"
	"deuce/score"
)

// full is a format as it is played: the best of five sets, with tie-breaks to 7 and a last one to 10.
func full() api.Format {
	return api.Format{Sets: 3, Games: 6, Tie: 6, To: 7, LastTie: 6, LastTo: 10, First: 7, Then: 9}
}

// P1.6: TestWays: orders of games, by numbers that can be counted by hand.
func TestWays(t *testing.T) {
	long := api.Format{Sets: 2, Games: 1, Tie: -1, To: 7, LastTie: -1, LastTo: 7}
	four := api.Format{Sets: 2, Games: 4, Tie: -1, To: 7, LastTie: -1, LastTo: 7}
	for i, x := range []struct {
		f    api.Format
		sets []api.Pair
		want int
		e    api.Errno
	}{
		{short(), nil, 1, api.OK},
		{short(), []api.Pair{pair(3, 1)}, 2, api.OK},
		{short(), []api.Pair{pair(3, 1), pair(0, 2)}, 2, api.OK},
		{short(), []api.Pair{pair(2, 3)}, 4, api.OK},
		{short(), []api.Pair{pair(2, 3), pair(3, 1), pair(0, 1)}, 8, api.OK},
		{full(), []api.Pair{pair(6, 0)}, 1, api.OK},
		{full(), []api.Pair{pair(6, 4)}, 126, api.OK},
		{full(), []api.Pair{pair(7, 5)}, 252, api.OK},
		{full(), []api.Pair{pair(7, 6)}, 504, api.OK},
		{full(), []api.Pair{pair(7, 6), pair(6, 7), pair(7, 6), pair(6, 7)}, 504 * 504 * 504 * 504, api.OK},
		{full(), []api.Pair{pair(7, 6), pair(6, 7), pair(7, 6), pair(6, 7), pair(6, 1)}, 504 * 504 * 504 * 504 * 6, api.OK},
		{full(), []api.Pair{pair(7, 6), pair(6, 7), pair(7, 6), pair(6, 7), pair(6, 2)}, 0, api.ErrMany},
		{long, []api.Pair{pair(40, 38)}, 1 << 38, api.OK},
		{long, []api.Pair{pair(40, 38), pair(1, 3)}, 1 << 39, api.OK},
		{long, []api.Pair{pair(40, 38), pair(2, 4)}, 0, api.ErrMany},
		{long, []api.Pair{pair(40, 38), pair(38, 40), pair(40, 38)}, 0, api.ErrMany},
		{four, []api.Pair{pair(4, 0), pair(38, 40)}, 20 << 35, api.OK},
		{four, []api.Pair{pair(4, 1), pair(38, 40)}, 0, api.ErrMany},
		{short(), []api.Pair{pair(2, 1)}, 0, api.ErrBoard},
		{short(), []api.Pair{pair(0, 0)}, 0, api.ErrBoard},
		{short(), []api.Pair{pair(2, 0), pair(0, 2), pair(2, 0)}, 0, api.ErrBoard},
		{short(), []api.Pair{pair(2, 0), pair(2, 0), pair(2, 0)}, 0, api.ErrBoard},
		{long, []api.Pair{pair(42, 40)}, 0, api.ErrBoard},
		{long, []api.Pair{pair(40, 38), pair(40, 38), pair(0, 2)}, 0, api.ErrBoard},
	} {
		if n, e := score.Ways(x.f, x.sets); n != x.want || e != x.e {
			t.Errorf("%d: Ways = %d, %d", i, n, e)
		}
	}
}

// tally is what was found by playing all orders of games.
type tally struct {
	orders     map[string]int
	least, top int
}

// longest is the number of games up to which matches are played: no match with a bound has more.
const longest = 15

// play plays all orders of games, and counts the sets that are over whenever one ends.
func (x *tally) play(f api.Format, points []int, games int) {
	for side := range 2 {
		next := slices.Clone(points)
		var l []api.Game
		for len(l) <= games {
			next = append(next, side)
			l, _ = score.Games(f, 0, next)
		}
		s, _ := score.Play(f, 0, next)
		if s.Board.Games == pair(0, 0) {
			x.orders[key(api.Board{Sets: s.Board.Sets})]++
		}
		if s.Winner != -1 {
			x.least, x.top = min(x.least, len(l)), max(x.top, len(l))
		} else if len(l) < longest {
			x.play(f, next, len(l))
		}
	}
}

// P1.6, P1.7: TestOrdersOfAll: Ways and Range are what playing all orders of games finds.
func TestOrdersOfAll(t *testing.T) {
	for name, f := range small() {
		x := tally{map[string]int{}, 99, 0}
		x.play(f, nil, 0)
		games, _, e := score.Range(f)
		if e != api.OK || games.Low != x.least || games.High != -1 && games.High != x.top || games.High == -1 && x.top != longest {
			t.Errorf("%s: Range = %v instead of %d to %d, %d", name, games, x.least, x.top, e)
		}
		seen := 0
		look := func(sets ...api.Pair) {
			n, e := score.Ways(f, sets)
			want := x.orders[key(api.Board{Sets: sets})]
			if e == api.OK && n != want || e != api.OK && (want != 0 || e != api.ErrBoard) {
				t.Fatalf("%s: Ways of %v = %d instead of %d, %d", name, sets, n, want, e)
			}
			if want > 0 {
				seen++
			}
		}
		for a := range 16 {
			look(pair(a%4, a/4))
			for b := range 16 {
				look(pair(a%4, a/4), pair(b%4, b/4))
			}
		}
		if seen == 0 {
			t.Errorf("%s: no orders", name)
		}
	}
}

// P1.7: TestRange: the bounds of whole matches.
func TestRange(t *testing.T) {
	for i, x := range []struct {
		f                 api.Format
		low, high, points int
	}{
		{short(), 4, 11, 16},
		{with(func(f *api.Format) { f.NoAd = true }), 4, 11, 16},
		{full(), 18, 65, 72},
		{with(func(f *api.Format) { f.Tie = -1 }), 4, -1, 16},
		{with(func(f *api.Format) { f.LastTie = -1 }), 4, -1, 16},
		{with(func(f *api.Format) { f.Sets, f.Tie = 1, -1 }), 1, 1, 4},
		{with(func(f *api.Format) { f.Sets, f.LastTie = 1, -1 }), 2, -1, 8},
		{with(func(f *api.Format) { f.Tie = 1 }), 4, 7, 16},
		{with(func(f *api.Format) { f.Sets, f.Tie = 3, 0 }), 3, 5, 9},
		{with(func(f *api.Format) { f.Sets, f.Tie, f.To = 3, 0, 1 }), 3, 5, 6},
		{api.Format{Sets: 1, Games: 1, To: 1, LastTie: 1, LastTo: 1}, 2, 3, 8},
		{api.Format{Sets: 3, Games: 8, Tie: 8, To: 7, LastTie: 7, LastTo: 1}, 24, 83, 96},
	} {
		games, n, e := score.Range(x.f)
		if e != api.OK || games.Low != x.low || games.High != x.high || n != x.points {
			t.Errorf("%d: Range = %v, %d, %d", i, games, n, e)
		}
	}
}

// P1.13: TestWaysOfMore: Ways is a multiple of that of fewer sets, and the same if the sides of the last set are exchanged.
func TestWaysOfMore(t *testing.T) {
	sets := []api.Pair{pair(6, 4), pair(5, 7), pair(7, 6), pair(3, 6), pair(7, 5)}
	for n := 1; n <= len(sets); n++ {
		before, _ := score.Ways(full(), sets[:n-1])
		ways, e := score.Ways(full(), sets[:n])
		if e != api.OK || ways%before != 0 {
			t.Errorf("%d sets: Ways = %d behind %d, %d", n, ways, before, e)
		}
		other := slices.Clone(sets[:n])
		other[n-1] = swapped(other[n-1])
		if again, e := score.Ways(full(), other); e != api.OK || again != ways {
			t.Errorf("%d sets: Ways = %d instead of %d, %d", n, again, ways, e)
		}
	}
}
