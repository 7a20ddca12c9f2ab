package score_test

import (
	"slices"
	"strconv"
	"testing"

	"deuce/api"
	"deuce/score"
)

// P1.4: TestArises: boards on both sides of each rule.
func TestArises(t *testing.T) {
	noAd := with(func(f *api.Format) { f.NoAd = true })
	endless := with(func(f *api.Format) { f.Tie = -1 })
	early := with(func(f *api.Format) { f.Tie = 1 })
	ties := api.Format{Sets: 2, Games: 1, To: 1, LastTo: 1}
	one := []api.Pair{pair(2, 0), pair(0, 2)}
	for i, x := range []struct {
		f             api.Format
		sets          []api.Pair
		games, points api.Pair
		want          bool
	}{
		{short(), nil, pair(0, 0), pair(0, 0), true},
		{short(), []api.Pair{pair(3, 1)}, pair(0, 1), pair(0, 0), true},
		{short(), []api.Pair{pair(2, 1)}, pair(0, 0), pair(0, 0), false},
		{short(), nil, pair(2, 2), pair(3, 1), false},
		{short(), nil, pair(2, 2), pair(2, 1), true},
		{short(), nil, pair(2, 2), pair(40, 40), true},
		{short(), nil, pair(2, 2), pair(40, 38), false},
		{short(), nil, pair(2, 0), pair(0, 0), false},
		{short(), nil, pair(3, 2), pair(0, 0), false},
		{short(), nil, pair(3, 3), pair(0, 0), false},
		{short(), nil, pair(0, 0), pair(4, 0), false},
		{short(), nil, pair(0, 0), pair(4, 2), false},
		{short(), nil, pair(0, 0), pair(4, 3), true},
		{short(), nil, pair(0, 0), pair(40, 40), true},
		{noAd, nil, pair(0, 0), pair(3, 3), true},
		{noAd, nil, pair(0, 0), pair(4, 3), false},
		{noAd, nil, pair(0, 0), pair(4, 4), false},
		{noAd, nil, pair(0, 0), pair(9, 9), false},
		{noAd, nil, pair(2, 2), pair(8, 9), true},
		{endless, nil, pair(39, 40), pair(40, 39), true},
		{endless, []api.Pair{pair(38, 40)}, pair(0, 0), pair(0, 0), true},
		{endless, []api.Pair{pair(38, 39)}, pair(0, 0), pair(0, 0), false},
		{endless, []api.Pair{pair(37, 40)}, pair(0, 0), pair(0, 0), false},
		{early, []api.Pair{pair(2, 1)}, pair(1, 1), pair(2, 2), true},
		{early, []api.Pair{pair(3, 1)}, pair(0, 0), pair(0, 0), false},
		{early, nil, pair(2, 1), pair(0, 0), false},
		{short(), one, pair(0, 0), pair(3, 3), true},
		{short(), one, pair(0, 1), pair(0, 0), false},
		{short(), append(one[:2:2], pair(1, 0)), pair(0, 0), pair(0, 0), true},
		{short(), append(one[:2:2], pair(2, 0)), pair(0, 0), pair(0, 0), false},
		{short(), append(one[:2:2], pair(1, 0)), pair(0, 0), pair(1, 0), false},
		{short(), append(one[:2:2], pair(1, 0)), pair(0, 1), pair(0, 0), false},
		{short(), append(one[:2:2], pair(1, 0), pair(1, 0)), pair(0, 0), pair(0, 0), false},
		{short(), []api.Pair{pair(2, 0), pair(2, 0)}, pair(0, 0), pair(0, 0), true},
		{short(), []api.Pair{pair(0, 0)}, pair(0, 0), pair(0, 0), false},
		{ties, nil, pair(0, 0), pair(1, 0), true},
		{ties, nil, pair(0, 0), pair(2, 0), false},
		{ties, nil, pair(1, 0), pair(0, 0), false},
		{ties, []api.Pair{pair(2, 0)}, pair(0, 0), pair(0, 0), false},
		{ties, []api.Pair{pair(0, 1)}, pair(0, 0), pair(9, 8), true},
	} {
		b := api.Board{Sets: x.sets, Games: x.games, Points: x.points}
		if is, e := score.Arises(x.f, b); is != x.want || e != api.OK {
			t.Errorf("%d: Arises = %v, %d", i, is, e)
		}
	}
}

// P1.4 to P1.6: TestBoardErrors: which boards have no answer, and in which order the errors come.
func TestBoardErrors(t *testing.T) {
	fine := []api.Pair{pair(2, 0), pair(0, 2), pair(2, 0), pair(0, 2), pair(1, 0)}
	for i, b := range []api.Board{
		{Sets: make([]api.Pair, 6)},
		{Sets: []api.Pair{pair(2, 0), pair(-1, 0)}},
		{Sets: []api.Pair{pair(39, 41)}},
		{Games: pair(41, 0)},
		{Games: pair(0, -1)},
		{Points: pair(0, 41)},
		{Points: pair(-1, 0)},
	} {
		if is, e := score.Arises(short(), b); is || e != api.ErrBoard {
			t.Errorf("%d: Arises = %v, %d", i, is, e)
		}
		if n, e := score.Least(short(), b, 2); n != 0 || e != api.ErrBoard {
			t.Errorf("%d: Least = %d, %d", i, n, e)
		}
		if len(b.Sets) == 0 {
			continue
		}
		if n, e := score.Ways(short(), b.Sets); n != 0 || e != api.ErrBoard {
			t.Errorf("%d: Ways = %d, %d", i, n, e)
		}
	}
	f := with(func(f *api.Format) { f.Sets = 3 })
	if is, e := score.Arises(f, api.Board{Sets: fine}); !is || e != api.OK {
		t.Errorf("five sets: Arises = %v, %d", is, e)
	}
	over := api.Board{Sets: []api.Pair{pair(2, 0), pair(2, 0)}}
	for i, x := range []struct {
		b    api.Board
		side int
		e    api.Errno
	}{
		{api.Board{Games: pair(2, 0)}, 2, api.ErrBoard},
		{api.Board{Sets: over.Sets, Games: pair(1, 0)}, 1, api.ErrBoard},
		{over, 2, api.ErrArg},
		{over, -1, api.ErrArg},
		{api.Board{}, 2, api.ErrArg},
		{over, 1, api.ErrNone},
	} {
		if n, e := score.Least(short(), x.b, x.side); n != 0 || e != x.e {
			t.Errorf("%d: Least = %d, %d", i, n, e)
		}
	}
}

// P1.5: TestLeast: the fewest points, also where a game or a set is given away.
func TestLeast(t *testing.T) {
	noAd := with(func(f *api.Format) { f.NoAd = true })
	quick := api.Format{Sets: 1, Games: 6, Tie: 6, To: 7, LastTie: 6, LastTo: 1}
	last := api.Format{Sets: 2, Games: 6, Tie: 6, To: 7, LastTo: 1}
	for i, x := range []struct {
		f             api.Format
		sets          []api.Pair
		games, points api.Pair
		side, want    int
	}{
		{short(), nil, pair(1, 1), pair(0, 0), 0, 16},
		{short(), nil, pair(0, 0), pair(0, 0), 0, 16},
		{short(), []api.Pair{pair(2, 0)}, pair(0, 0), pair(0, 0), 1, 12},
		{short(), []api.Pair{pair(2, 0), pair(2, 0)}, pair(0, 0), pair(0, 0), 0, 0},
		{short(), []api.Pair{pair(2, 0)}, pair(1, 0), pair(3, 2), 0, 1},
		{short(), []api.Pair{pair(2, 0)}, pair(1, 0), pair(3, 3), 0, 2},
		{noAd, []api.Pair{pair(2, 0)}, pair(1, 0), pair(3, 3), 0, 1},
		{short(), []api.Pair{pair(2, 0)}, pair(1, 0), pair(39, 40), 0, 3},
		{short(), []api.Pair{pair(2, 0)}, pair(2, 2), pair(1, 1), 0, 2},
		{short(), []api.Pair{pair(2, 0), pair(0, 2)}, pair(0, 0), pair(0, 3), 0, 5},
		{quick, nil, pair(5, 6), pair(3, 3), 0, 4},
		{quick, nil, pair(5, 5), pair(0, 3), 0, 7},
		{last, []api.Pair{pair(6, 0)}, pair(0, 5), pair(0, 3), 0, 3},
		{last, []api.Pair{pair(6, 0)}, pair(0, 5), pair(0, 0), 0, 6},
		{last, []api.Pair{pair(6, 0)}, pair(0, 4), pair(0, 3), 0, 7},
	} {
		b := api.Board{Sets: x.sets, Games: x.games, Points: x.points}
		if n, e := score.Least(x.f, b, x.side); n != x.want || e != api.OK {
			t.Errorf("%d: Least = %d, %d", i, n, e)
		}
		for j, set := range b.Sets {
			b.Sets[j] = swapped(set)
		}
		b.Games, b.Points = swapped(b.Games), swapped(b.Points)
		if n, e := score.Least(x.f, b, 1-x.side); n != x.want || e != api.OK {
			t.Errorf("%d: Least of exchanged sides = %d, %d", i, n, e)
		}
	}
}

// most is the number of points of one side up to which a game is looked at.
const most = 7

// key writes a board, so that boards can be kept in a map.
func key(b api.Board) string {
	var out []byte
	for _, p := range append(slices.Clone(b.Sets), b.Games, b.Points) {
		out = strconv.AppendInt(append(out, ' '), int64(p.A), 10)
		out = strconv.AppendInt(append(out, '-'), int64(p.B), 10)
	}
	return string(out)
}

// node is a board that was played to, and the boards behind one more point.
type node struct {
	score  api.Score
	points []int
	next   []string
}

// explore plays all points, but that no set has more than four games of a side, and no game more than most points of it.
func explore(t *testing.T, f api.Format) map[string]*node {
	t.Helper()
	start, _ := score.Play(f, 0, nil)
	first := key(start.Board)
	nodes := map[string]*node{first: {score: start}}
	for work := []string{first}; len(work) > 0; work = work[1:] {
		n := nodes[work[0]]
		if n.score.Winner != -1 {
			continue
		}
		for side := range 2 {
			points := append(slices.Clone(n.points), side)
			s, e := score.Play(f, 0, points)
			if e != api.OK {
				t.Fatalf("Play of %v: %d", points, e)
			}
			g, p := s.Board.Games, s.Board.Points
			if max(g.A, g.B) > 4 || max(p.A, p.B) > most || slices.ContainsFunc(s.Board.Sets, func(p api.Pair) bool { return max(p.A, p.B) > 4 }) {
				continue
			}
			k := key(s.Board)
			n.next = append(n.next, k)
			if nodes[k] == nil {
				nodes[k] = &node{score: s, points: points}
				work = append(work, k)
			}
		}
	}
	return nodes
}

// distances returns the fewest points from boards on by which a side wins.
func distances(nodes map[string]*node, side int) map[string]int {
	before := map[string][]string{}
	out := map[string]int{}
	var work []string
	for k, n := range nodes {
		for _, next := range n.next {
			before[next] = append(before[next], k)
		}
		if n.score.Winner == side {
			out[k] = 0
			work = append(work, k)
		}
	}
	for ; len(work) > 0; work = work[1:] {
		for _, k := range before[work[0]] {
			if _, known := out[k]; !known {
				out[k] = out[work[0]] + 1
				work = append(work, k)
			}
		}
	}
	return out
}

// small is the formats of which all boards can be looked at in a short time.
func small() map[string]api.Format {
	out := formats()
	for name, f := range out {
		f.Sets = min(f.Sets, 2)
		out[name] = f
	}
	return out
}

// P1.5, P1.7, P1.12: TestLeastOfAll: Least is the length of the shortest way through all boards.
func TestLeastOfAll(t *testing.T) {
	for name, f := range small() {
		nodes := explore(t, f)
		for side := range 2 {
			far := distances(nodes, side)
			for k, n := range nodes {
				if p, g := n.score.Board.Points, n.score.Board.Games; max(p.A, p.B) > most-2 || max(g.A, g.B) > 2 {
					continue // the shortest way may be outside of what was explored
				}
				d, e := score.Least(f, n.score.Board, side)
				if n.score.Winner == 1-side {
					if e != api.ErrNone || d != 0 {
						t.Fatalf("%s: Least of%s for %d = %d, %d", name, k, side, d, e)
					}
				} else if e != api.OK || d != far[k] {
					t.Fatalf("%s: Least of%s for %d = %d instead of %d, %d", name, k, side, d, far[k], e)
				}
			}
		}
		least, _ := score.Least(f, api.Board{}, 0)
		if _, points, e := score.Range(f); e != api.OK || points != least {
			t.Errorf("%s: Range has %d points instead of %d", name, points, least)
		}
	}
}

// P1.4, P1.8: TestArisesAll: boards arise just if points were found that lead to them.
func TestArisesAll(t *testing.T) {
	var pairs []api.Pair
	for a := range 5 {
		for b := range 5 {
			pairs = append(pairs, pair(a, b))
		}
	}
	inGame := append(slices.Clone(pairs), pair(5, 3), pair(5, 4), pair(5, 5), pair(6, 5), pair(4, 6), pair(0, 7))
	for name, f := range small() {
		nodes := explore(t, f)
		check := func(b api.Board) {
			is, e := score.Arises(f, b)
			if e != api.OK || is != (nodes[key(b)] != nil) {
				t.Fatalf("%s: Arises of%s = %v, %d", name, key(b), is, e)
			}
		}
		for _, n := range nodes {
			check(n.score.Board)
		}
		for _, games := range pairs {
			for _, points := range inGame {
				check(api.Board{Games: games, Points: points})
				for _, set := range pairs {
					check(api.Board{Sets: []api.Pair{set}, Games: games, Points: points})
				}
			}
			for _, a := range pairs {
				for _, b := range pairs {
					check(api.Board{Sets: []api.Pair{a, b}, Games: games})
					check(api.Board{Sets: []api.Pair{a, b}, Games: games, Points: pair(1, 0)})
					check(api.Board{Sets: []api.Pair{a, b, games}})
				}
			}
		}
	}
}
