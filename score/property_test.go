package score_test

import (
	"slices"
	"testing"

	"deuce/api"
	"deuce/score"
)

// seeds is how many matches are played of each format.
const seeds = 6

// eachMatch calls a function with points of some matches of each format.
func eachMatch(t *testing.T, do func(t *testing.T, f api.Format, points []int)) {
	for name, f := range formats() {
		t.Run(name, func(t *testing.T) {
			for seed := range uint64(seeds) {
				do(t, f, randomPoints(f, seed, 150))
			}
		})
	}
}

// P1.8, P1.9: TestOneAtATime: one more point adds one point to one game, and nothing else unless the game ends.
func TestOneAtATime(t *testing.T) {
	eachMatch(t, func(t *testing.T, f api.Format, points []int) {
		before, _ := score.Play(f, 0, nil)
		count := 0
		for n := range points {
			now, e := score.Play(f, 0, points[:n+1])
			l, f := score.Games(f, 0, points[:n+1])
			if e != api.OK || f != api.OK {
				t.Fatalf("point %d: %d, %d", n, e, f)
			}
			played := sum(now.Board.Points)
			for _, g := range l {
				played += sum(g.Points)
			}
			if played != n+1 {
				t.Fatalf("point %d: %d points", n, played)
			}
			switch ended := len(l) - count; {
			case ended == 0:
				if !slices.Equal(now.Board.Sets, before.Board.Sets) || now.Board.Games != before.Board.Games ||
					sum(now.Board.Points) != sum(before.Board.Points)+1 || now.Balls != before.Balls {
					t.Fatalf("point %d: %v behind %v", n, now, before)
				}
			case ended == 1:
				if now.Board.Points != pair(0, 0) || l[count].Winner != points[n] ||
					sum(l[count].Points) != sum(before.Board.Points)+1 {
					t.Fatalf("point %d: %v behind %v, %v", n, now, before, l)
				}
				if sets := len(now.Board.Sets) - len(before.Board.Sets); sets == 0 && sum(now.Board.Games) != sum(before.Board.Games)+1 ||
					sets == 1 && (now.Board.Games != pair(0, 0) || sum(now.Board.Sets[len(before.Board.Sets)]) != sum(before.Board.Games)+1) {
					t.Fatalf("point %d: %v behind %v", n, now, before)
				}
			default:
				t.Fatalf("point %d: %d games ended", n, ended)
			}
			before, count = now, len(l)
		}
	})
}

// P1.9: TestEndsAndBallsCounted: ends and balls are counted as the games of a match tell.
func TestEndsAndBallsCounted(t *testing.T) {
	eachMatch(t, func(t *testing.T, f api.Format, points []int) {
		for n := range len(points) + 1 {
			s, _ := score.Play(f, 0, points[:n])
			l, _ := score.Games(f, 0, points[:n])
			ends, balls, set, inSet := 0, 0, 0, 0
			for i, g := range l {
				if g.Set != set {
					set, inSet = g.Set, 0
				}
				inSet++
				if g.Tie {
					ends += (sum(g.Points) - 1) / 6
				}
				if inSet%2 == 1 && (i < len(l)-1 || s.Winner == -1) {
					ends++
				}
				if g.Fresh {
					balls++
				}
			}
			if s.Winner == -1 {
				if tie, fresh := inPlay(f, points[:n], len(l)); tie || fresh {
					if tie {
						ends += sum(s.Board.Points) / 6
					}
					if fresh {
						balls++
					}
				}
			}
			if s.Ends != ends || s.Balls != balls {
				t.Fatalf("%v: ends %d and balls %d instead of %d and %d", points[:n], s.Ends, s.Balls, ends, balls)
			}
		}
	})
}

// inPlay finds out about the game in play by going on until it is over.
func inPlay(f api.Format, points []int, game int) (tie, fresh bool) {
	next := slices.Clone(points)
	for {
		next = append(next, 0)
		if l, e := score.Games(f, 0, next); e != api.OK || len(l) > game {
			return l[game].Tie, l[game].Fresh
		}
	}
}

// P1.10: TestSides: exchanged sides have the exchanged score.
func TestSides(t *testing.T) {
	eachMatch(t, func(t *testing.T, f api.Format, points []int) {
		for n := range len(points) + 1 {
			a, _ := score.Play(f, 0, points[:n])
			b, e := score.Play(f, 1, swap(points[:n]))
			for i := range b.Board.Sets {
				b.Board.Sets[i] = swapped(b.Board.Sets[i])
			}
			b.Board.Games, b.Board.Points = swapped(b.Board.Games), swapped(b.Board.Points)
			if b.Winner != -1 {
				b.Winner = 1 - b.Winner
			}
			if b.Server != -1 {
				b.Server ^= 1
			}
			if e != api.OK || !same(a, b) {
				t.Fatalf("%v: %v instead of %v, %d", points[:n], b, a, e)
			}
		}
	})
}

// P1.11: TestServingInTurn: pairs serve by turns, players every fourth game, and nobody serves three points of a tie-break one after the other.
func TestServingInTurn(t *testing.T) {
	eachMatch(t, func(t *testing.T, f api.Format, points []int) {
		for first := range 2 {
			l, _ := score.Games(f, first, points)
			at := 0
			for i, g := range l {
				if g.Server%2 != (first+i)%2 || i >= 4 && g.Server != l[i-4].Server || !f.Doubles && g.Server > 1 {
					t.Fatalf("game %d of %v", i, l)
				}
				var servers []int
				for n := range sum(g.Points) {
					s, _ := score.Play(f, first, points[:at+n])
					servers = append(servers, s.Server)
				}
				at += sum(g.Points)
				checkServers(t, g, servers)
			}
		}
	})
}

// checkServers checks who served in a game.
func checkServers(t *testing.T, g api.Game, servers []int) {
	t.Helper()
	for n, s := range servers {
		switch {
		case n == 0 || !g.Tie:
			if s != g.Server {
				t.Fatalf("%v: served by %v", g, servers)
			}
		case (s%2 == g.Server%2) != (n%4 == 3 || n%4 == 0):
			t.Fatalf("%v: served by %v", g, servers)
		}
	}
}

// P1.8, P1.12: TestHowFar: with a point of its own a side comes nearer by at most 1, and each board has a next point by which it does.
func TestHowFar(t *testing.T) {
	eachMatch(t, func(t *testing.T, f api.Format, points []int) {
		for n := range len(points) + 1 {
			s, _ := score.Play(f, 0, points[:n])
			if is, e := score.Arises(f, s.Board); !is || e != api.OK {
				t.Fatalf("%v: Arises = %v, %d", s.Board, is, e)
			}
			for side := range 2 {
				checkNext(t, f, points[:n], s, side)
			}
		}
	})
}

// checkNext compares Least of a score with that of the scores behind one more point.
func checkNext(t *testing.T, f api.Format, points []int, s api.Score, side int) {
	t.Helper()
	now, e := score.Least(f, s.Board, side)
	switch {
	case s.Winner == side && (now != 0 || e != api.OK), s.Winner == 1-side && (now != 0 || e != api.ErrNone):
		t.Fatalf("%v: Least of the end = %d, %d", s, now, e)
	case s.Winner != -1:
		return
	}
	nearer := false
	for winner := range 2 {
		next, _ := score.Play(f, 0, append(slices.Clone(points), winner))
		n, e := score.Least(f, next.Board, side)
		if e == api.ErrNone {
			continue
		}
		if e != api.OK || n < now-1 {
			t.Fatalf("%v: Least %d behind %d, %d", next, n, now, e)
		}
		nearer = nearer || n == now-1
	}
	if !nearer {
		t.Fatalf("%v: nothing is nearer than %d", s, now)
	}
}

// P1.14: TestBounds: whole matches have games and points as Range says, and some have the fewest.
func TestBounds(t *testing.T) {
	check := func(t *testing.T, f api.Format, points []int) {
		s, _ := score.Play(f, 0, points)
		l, _ := score.Games(f, 0, points)
		games, n, e := score.Range(f)
		if s.Winner == -1 {
			return
		}
		if e != api.OK || len(l) < games.Low || games.High != -1 && len(l) > games.High || len(points) < n {
			t.Errorf("%d games and %d points, Range = %v, %d, %d", len(l), len(points), games, n, e)
		}
	}
	eachMatch(t, check)
	for name, f := range formats() {
		games, n, _ := score.Range(f)
		l, _ := score.Games(f, 0, run(1, n))
		if s, e := score.Play(f, 0, run(1, n)); e != api.OK || s.Winner != 1 || len(l) != games.Low {
			t.Errorf("%s: the shortest match: %v, %d games, %d", name, s, len(l), e)
		}
	}
}
