package balls_test

import (
	"math/rand/v2"
	"testing"

	"deuce/api"
	"deuce/balls"
	"deuce/card"
	"deuce/score"
)

// P0.6: TestEmptyCans: what matches that are played to their ends use is within what they need at their beginning.
func TestEmptyCans(t *testing.T) {
	ended := 0
	for seed := range uint64(150) {
		r := random(seed)
		d := api.Depot{Kit: api.Kit{Each: 1 + r.IntN(20), Towels: 1 + r.IntN(20), Frames: 1 + r.IntN(20)}, Stock: make([]int, 3)}
		var used [3]int
		for range 1 + r.IntN(6) {
			f := randomFormat(r, api.MaxGames)
			points, over := randomMatch(r, f)
			if !over {
				continue
			}
			ended++
			s, _ := score.Play(f, r.IntN(2), points)
			d.Fixtures = append(d.Fixtures, api.Fixture{Day: 7, Format: f})
			used[0] += d.Kit.Each * (1 + s.Balls)
			used[1] += d.Kit.Towels * players(f) * len(s.Board.Sets)
			used[2] += d.Kit.Frames * players(f)
		}
		for item, n := range used {
			s, e := balls.Need(d, item, 7)
			if e != api.OK || n < s.Low || n > s.High {
				t.Fatalf("seed %d: %d of %d are used, Need = %v, %d", seed, n, item, s, e)
			}
		}
	}
	if ended < 300 {
		t.Errorf("only %d came to their ends", ended)
	}
}

// randomCard returns the card of a match of which some points were not noted.
func randomCard(r *rand.Rand, f api.Format) api.Card {
	c := api.Card{Format: f, First: r.IntN(2)}
	points, _ := randomMatch(r, f)
	for len(points) > 0 && len(c.Marks) < 6 {
		n := min(len(points), 1+r.IntN(20))
		low := max(0, n-r.IntN(3))
		c.Marks = append(c.Marks, api.Note{Kind: api.Missed, Pair: pair(low, n+r.IntN(3))})
		if n < len(points) {
			c.Marks = append(c.Marks, api.Note{Kind: api.Noted, Side: points[n]})
			n++
		}
		points = points[n:]
	}
	return c
}

// P0.7: TestDoubtfulCard: from no board at which a match can stand by a card does it need more than from its beginning.
func TestDoubtfulCard(t *testing.T) {
	boards := 0
	for seed := range uint64(60) {
		r := random(seed)
		f := randomFormat(r, 4)
		l, e := card.Boards(randomCard(r, f))
		if e != api.OK && e != api.ErrNone {
			t.Fatalf("seed %d: Boards: %d", seed, e)
		}
		d := api.Depot{Kit: api.Kit{Each: 2, Towels: 3, Frames: 1}, Stock: make([]int, 3), Fixtures: []api.Fixture{{Day: 1, Format: f}}}
		var most [3]int
		for item := range most {
			s, _ := balls.Need(d, item, 1)
			most[item] = s.High
		}
		for range min(len(l), 200) {
			b := l[r.IntN(len(l))]
			d.Fixtures[0].Board = b
			for item, n := range most {
				if s, e := balls.Need(d, item, 1); e != api.OK || s.High > n {
					t.Fatalf("seed %d: %v needs %v of %d, %d, and %d from its beginning", seed, b, s, item, e, n)
				}
			}
			boards++
		}
	}
	if boards < 500 {
		t.Errorf("only %d boards", boards)
	}
}
