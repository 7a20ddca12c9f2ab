package bracket_test

import (
	"math/rand/v2"
	"slices"
	"testing"

	"deuce/api"
	"deuce/bracket"
)

// P7.9: TestAnyOrder: the order of slips, slips given twice, and slips that follow from others change nothing.
func TestAnyOrder(t *testing.T) {
	twice, follow := 0, 0
	eachStory(t, 250, api.MaxRounds, func(t *testing.T, r *rand.Rand, s story) {
		wanted := answersOf(t, s.tree, s.slips, s.players)
		l := slices.Clone(s.slips)
		for len(l) > 0 && len(l) < api.MaxSlips && r.IntN(4) > 0 {
			l = append(l, s.slips[r.IntN(len(s.slips))])
			twice++
		}
		r.Shuffle(len(l), func(i, j int) { l[i], l[j] = l[j], l[i] })
		equal(t, "in another order", answersOf(t, s.tree, l, s.players), wanted)

		l = slices.Clone(s.slips)
		for _, m := range placesOf(s.tree.Rounds) {
			if wanted.winner[m].e == api.OK && !s.told(m) && !s.bye(m) {
				l = append(l, slip(api.Played+r.IntN(4), m.round, m.place, wanted.winner[m].n))
				follow++
			}
		}
		equal(t, "with those that follow", answersOf(t, s.tree, l, s.players), wanted)
	})
	if twice < 300 || follow < 150 {
		t.Errorf("only %d came twice, %d followed", twice, follow)
	}
}

// P7.11, P7.12: TestOneMore: a slip that a player won agrees for all of May, and for nobody else; Left becomes less by it, unless the winner was sure.
func TestOneMore(t *testing.T) {
	can, cannot := 0, 0
	eachStory(t, 600, 4, func(t *testing.T, r *rand.Rand, s story) {
		a := answersOf(t, s.tree, s.slips, nil)
		sure := 0
		for _, m := range placesOf(s.tree.Rounds) {
			if a.winner[m].e == api.OK {
				sure++
			}
			if s.told(m) || s.bye(m) {
				continue
			}
			for _, player := range s.players {
				l := append(slices.Clone(s.slips), slip(api.Played+r.IntN(4), m.round, m.place, player))
				left, e := bracket.Left(s.tree, l)
				if !slices.Contains(a.may[m], player) {
					cannot++
					if e != api.ErrClash {
						t.Errorf("%d wins %v: %d", player, m, e)
					}
					continue
				}
				can++
				less := a.left - left
				if e != api.OK || less < 0 || (less == 0) != (a.winner[m].e == api.OK) {
					t.Errorf("%d wins %v: Left is %d behind %d, %d", player, m, left, a.left, e)
				}
			}
		}
		if len(a.bouts)-sure != a.left {
			t.Errorf("Left = %d, %d of %d are sure", a.left, sure, len(a.bouts))
		}
	})
	if can < 5000 || cannot < 5000 {
		t.Errorf("only %d can win, %d cannot", can, cannot)
	}
}

// P7.13: TestMeeting: two players can meet just if each of them can win all matches before; with slips that say so both are in the match.
func TestMeeting(t *testing.T) {
	met, never := 0, 0
	eachStory(t, 600, 4, func(t *testing.T, r *rand.Rand, s story) {
		for i := range s.slots {
			for j := range i {
				if s.slots[i] == api.Bye || s.slots[j] == api.Bye {
					continue
				}
				if meeting(t, s, i, j) {
					met++
				} else {
					never++
				}
			}
		}
	})
	if met < 2000 || never < 2000 {
		t.Errorf("only %d met, %d never", met, never)
	}
}

// meeting checks whether the players of two slots can meet, and reports it.
func meeting(t *testing.T, s story, i, j int) bool {
	t.Helper()
	a, b := s.slots[i], s.slots[j]
	round := 0
	for i>>(round+1) != j>>(round+1) {
		round++
	}
	can, l := true, slices.Clone(s.slips)
	for _, slot := range []int{i, j} {
		if round == 0 {
			break
		}
		m := place{round - 1, slot >> round}
		may, _ := bracket.May(s.tree, s.slips, m.round, m.place)
		can = can && slices.Contains(may, s.slots[slot])
		if !s.told(m) && !s.bye(m) {
			l = append(l, played(m.round, m.place, s.slots[slot]))
		}
	}
	wanted := number{0, api.ErrNone}
	if can {
		wanted = number{round, api.OK}
	}
	if n, e := bracket.Meet(s.tree, s.slips, a, b); (number{n, e}) != wanted {
		t.Errorf("Meet of %d and %d = %d, %d instead of %v", a, b, n, e, wanted)
	}
	bouts, e := bracket.Bouts(s.tree, l)
	if can != (e == api.OK && slices.ContainsFunc(bouts, func(x api.Bout) bool { return x.Round == round && x.One == b && x.Two == a })) {
		t.Errorf("Bouts with %d and %d = %v, %d", a, b, bouts, e)
	}
	return can
}

// P7.14: TestHowFar: of each number in the span there is a course, none of others.
func TestHowFar(t *testing.T) {
	open := 0
	eachStory(t, 300, 3, func(t *testing.T, r *rand.Rand, s story) {
		courses := coursesBy(s.tree.Rounds, s.slots, s.slips)
		for _, player := range playersOf(s.slots, nil) {
			span, e := bracket.Reached(s.tree, s.slips, player)
			if e != api.OK {
				t.Fatalf("Reached of %d: %d", player, e)
			}
			for n := range s.tree.Rounds + 1 {
				is := slices.ContainsFunc(courses, func(c course) bool { return winsBy(c, player) == n })
				if is != (span.Low <= n && n <= span.High) {
					t.Errorf("Reached of %d = %v, for %d there are courses: %v", player, span, n, is)
				}
			}
			if span.Low < span.High {
				open++
			}
		}
	})
	if open < 200 {
		t.Errorf("only %d are open", open)
	}
}

// renamed returns answers in which a player has another number.
func renamed(a answers, old, player int) answers {
	name := func(n int) int {
		if n == old {
			return player
		}
		return n
	}
	out := noAnswers()
	out.left = a.left
	for _, b := range a.bouts {
		out.bouts = append(out.bouts, api.Bout{Round: b.Round, Place: b.Place, One: name(b.One), Two: name(b.Two)})
	}
	for _, b := range a.ready {
		out.ready = append(out.ready, api.Bout{Round: b.Round, Place: b.Place, One: name(b.One), Two: name(b.Two)})
	}
	for m, n := range a.winner {
		out.winner[m] = n
		if n.e == api.OK {
			out.winner[m] = number{name(n.n), n.e}
		}
	}
	for m, may := range a.may {
		for _, n := range may {
			out.may[m] = append(out.may[m], name(n))
		}
		slices.Sort(out.may[m])
	}
	for n, x := range a.reached {
		out.reached[name(n)] = x
	}
	for n, x := range a.meet {
		out.meet[[2]int{name(n[0]), name(n[1])}] = x
	}
	return out
}

// P7.15: TestLuckyLoser: if a lucky loser comes for a player of whom no slip says that he won, the same holds for the new player as for the old one; of one who won a match it clashes.
func TestLuckyLoser(t *testing.T) {
	came, clashed := 0, 0
	eachStory(t, 600, api.MaxRounds, func(t *testing.T, r *rand.Rand, s story) {
		slot := r.IntN(len(s.slots))
		old, player := s.slots[slot], s.players[len(s.players)-1]
		if old == api.Bye {
			return
		}
		l := append(slices.Clone(s.slips), lucky(slot, player, old))
		r.Shuffle(len(l), func(i, j int) { l[i], l[j] = l[j], l[i] })
		if slices.ContainsFunc(s.slips, func(x api.Slip) bool { return x.Kind != api.Lucky && x.Player == old }) {
			clashed++
			if e := bracket.Check(s.tree, l); e != api.ErrClash {
				t.Errorf("Check = %d with %d for %d, who won", e, player, old)
			}
			return
		}
		came++
		before := playersOf(s.slots, nil)
		after := slices.Clone(before)
		after[slices.Index(after, old)] = player
		equal(t, "with a lucky loser", answersOf(t, s.tree, l, after), renamed(answersOf(t, s.tree, s.slips, before), old, player))
		if _, e := bracket.Reached(s.tree, l, old); e != api.ErrNone {
			t.Errorf("Reached of %d, who left: %d", old, e)
		}
	})
	if came < 100 || clashed < 100 {
		t.Errorf("only %d came, %d clashed", came, clashed)
	}
}
