package bracket_test

import (
	"math/rand/v2"
	"slices"
	"testing"

	"deuce/api"
	"deuce/bracket"
)

// P7.2 to P7.8: TestByCourses: all answers are those of all courses.
func TestByCourses(t *testing.T) {
	open, sure := 0, 0
	compare := func(t *testing.T, r *rand.Rand, s story) {
		slots, courses, agree := openBy(s.tree, s.slips)
		if !agree || !slices.Equal(slots, s.slots) {
			t.Fatalf("the story does not agree: %v", slots)
		}
		got := answersOf(t, s.tree, s.slips, s.players)
		equal(t, "answers", got, answersBy(s.tree.Rounds, slots, courses, s.players))
		open += got.left
		sure += len(got.bouts) - got.left
	}
	eachStory(t, 600, 3, compare)
	for seed := range uint64(6) {
		r := random(1000 + seed)
		compare(t, r, randomStory(r, 4))
	}
	if open < 500 || sure < 500 {
		t.Errorf("only %d matches were open, %d sure", open, sure)
	}
}

// spoil changes slips such that they stay as described, and may not agree any more.
func spoil(r *rand.Rand, s story) []api.Slip {
	l := slices.Clone(s.slips)
	anyone := func() int { return s.players[r.IntN(len(s.players))] }
	matches := slices.DeleteFunc(placesOf(s.tree.Rounds), s.bye)
	for range 1 + r.IntN(2) {
		i := 0
		if len(l) > 0 {
			i = r.IntN(len(l))
		}
		switch kind := r.IntN(7); {
		case kind < 2 && len(matches) > 0:
			m := matches[r.IntN(len(matches))]
			l = append(l, slip(api.Played+r.IntN(4), m.round, m.place, anyone()))
		case kind == 2:
			l = append(l, lucky(r.IntN(len(s.slots)), anyone(), anyone()))
		case kind == 3 && len(l) > 0:
			l[i].Player = anyone()
		case kind == 4 && len(l) > 0 && l[i].Kind == api.Lucky:
			l[i].Old = anyone()
		case kind == 5 && len(l) > 0 && l[i].Kind != api.Lucky:
			other := l[i]
			other.Kind = api.Played + r.IntN(4)
			l = append(l, other)
		case kind == 6 && len(l) > 0:
			l = slices.Delete(l, i, i+1)
		}
	}
	return l
}

// P7.1: TestClashes: slips agree if there is a course, and if each lucky loser comes once, to a place that is left.
func TestClashes(t *testing.T) {
	agreed, clashed := 0, 0
	eachStory(t, 6000, 3, func(t *testing.T, r *rand.Rand, s story) {
		l := spoil(r, s)
		slots, courses, agree := openBy(s.tree, l)
		if !agree {
			clashed++
			clash(t, s, l)
			return
		}
		agreed++
		equal(t, "answers", answersOf(t, s.tree, l, s.players), answersBy(s.tree.Rounds, slots, courses, s.players))
	})
	if agreed < 1000 || clashed < 1000 {
		t.Errorf("only %d agreed, %d clashed", agreed, clashed)
	}
}

// clash checks that all functions return ErrClash.
func clash(t *testing.T, s story, l []api.Slip) {
	t.Helper()
	everything(want(t, "slips", api.ErrClash), s.tree, l, 0, 0, s.players[0], s.players[1])
	if t.Failed() {
		t.Fatalf("the slips are %v", l)
	}
}

// P7.10, P7.14: TestTrueCourse: by slips that are true of a course nothing is sure that is not so in it, and all that is so in it can be.
func TestTrueCourse(t *testing.T) {
	met := 0
	eachStory(t, 1500, api.MaxRounds, func(t *testing.T, r *rand.Rand, s story) {
		for i, m := range placesOf(s.tree.Rounds) {
			winner, e := bracket.Winner(s.tree, s.slips, m.round, m.place)
			if e == api.OK && winner != s.course.winner(m) || e != api.OK && (e != api.ErrNone || s.told(m)) {
				t.Errorf("Winner of %v = %d, %d", m, winner, e)
			}
			may, e := bracket.May(s.tree, s.slips, m.round, m.place)
			if !slices.Contains(may, s.course.winner(m)) || e != api.OK {
				t.Errorf("May of %v = %v, %d", m, may, e)
			}
			bouts, e := bracket.Bouts(s.tree, s.slips)
			sides := s.course.sides(s.slots, m)
			sure := func(player, real int) bool { return player == real || player == api.Unknown && m.round > 0 }
			if e != api.OK || !sure(bouts[i].One, sides[0]) || !sure(bouts[i].Two, sides[1]) {
				t.Errorf("Bouts = %v, %d", bouts, e)
			}
			if !slices.Contains(sides[:], api.Bye) {
				met++
				if round, e := bracket.Meet(s.tree, s.slips, sides[0], sides[1]); round != m.round || e != api.OK {
					t.Errorf("Meet of %v = %d, %d", sides, round, e)
				}
			}
		}
		for _, player := range playersOf(s.slots, nil) {
			n := winsBy(s.course, player)
			if span, e := bracket.Reached(s.tree, s.slips, player); span.Low > n || span.High < n || e != api.OK {
				t.Errorf("Reached of %d = %v, %d instead of %d", player, span, e, n)
			}
		}
	})
	if met < 5000 {
		t.Errorf("only %d met", met)
	}
}
