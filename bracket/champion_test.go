package bracket_test

import (
	"math/rand/v2"
	"slices"
	"testing"

	"deuce/api"
	"deuce/bracket"
	"deuce/score"
)

// playMatch plays a match by points, and returns the side that wins it.
func playMatch(t *testing.T, r *rand.Rand, f api.Format) int {
	t.Helper()
	var points []int
	first, better := r.IntN(2), r.IntN(2)
	for {
		s, e := score.Play(f, first, points)
		if e != api.OK {
			t.Fatalf("Play of %v: %d", points, e)
		}
		if s.Winner != -1 {
			return s.Winner
		}
		// One side is better, so that the match ends.
		side := better
		if r.IntN(3) == 0 {
			side = 1 - better
		}
		points = append(points, side)
	}
}

// P0.5: TestChampion: if all matches are played by points, round by round, each is ready when its turn comes, and one player has won as many as there are rounds.
func TestChampion(t *testing.T) {
	f := api.Format{Sets: 1, Games: 2, NoAd: true, Tie: 2, To: 3, LastTie: 2, LastTo: 3}
	for seed := range uint64(60) {
		r := random(seed)
		s := randomStory(r, 1+int(seed)%api.MaxRounds)
		var slips []api.Slip
		for i, m := range placesOf(s.tree.Rounds) {
			if s.bye(m) {
				continue
			}
			bouts, e := bracket.Bouts(s.tree, slips)
			ready, g := bracket.Ready(s.tree, slips)
			if e != api.OK || g != api.OK || !slices.Contains(ready, bouts[i]) || bouts[i].One < 0 || bouts[i].Two < 0 {
				t.Fatalf("seed %d: %v is not ready: %v, %v", seed, m, bouts, ready)
			}
			winner := bouts[i].One
			if playMatch(t, r, f) == 1 {
				winner = bouts[i].Two
			}
			slips = append(slips, played(m.round, m.place, winner))
			if n, e := bracket.Winner(s.tree, slips, m.round, m.place); n != winner || e != api.OK {
				t.Fatalf("seed %d: Winner of %v = %d, %d instead of %d", seed, m, n, e, winner)
			}
		}
		if left, e := bracket.Left(s.tree, slips); left != 0 || e != api.OK {
			t.Errorf("seed %d: Left = %d, %d", seed, left, e)
		}
		champions := 0
		for _, player := range playersOf(s.tree.Slots, nil) {
			span, e := bracket.Reached(s.tree, slips, player)
			if e != api.OK || span.Low != span.High {
				t.Errorf("seed %d: Reached of %d = %v, %d", seed, player, span, e)
			}
			if span.Low == s.tree.Rounds {
				champions++
			}
		}
		if champions != 1 {
			t.Errorf("seed %d: there are %d champions", seed, champions)
		}
	}
}
