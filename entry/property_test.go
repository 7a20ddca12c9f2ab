package entry_test

import (
	"math/rand/v2"
	"slices"
	"testing"

	"deuce/api"
	"deuce/entry"
)

// answers is what all functions say of a player and an hour, and their errors.
type answers struct {
	list                            api.Entries
	where, number, cut, needs, when int
	cutError, needsError, whenError api.Errno
}

// all returns what all functions say.
func all(t *testing.T, f api.Field, l []api.Notice, hour, player int) answers {
	t.Helper()
	out := answers{list: listOf(t, f, l, hour)}
	out.where, out.number, _ = entry.Stand(f, l, hour, player)
	out.cut, out.cutError = entry.Cut(f, l, hour)
	out.needs, out.needsError = entry.Needs(f, l, hour, player)
	out.when, out.whenError = entry.When(f, l, player)
	return out
}

// equal reports whether two answers are equal.
func equal(a, b answers) bool {
	return same(a.list, b.list) && a.where == b.where && a.number == b.number && a.cut == b.cut && a.needs == b.needs && a.when == b.when &&
		a.cutError == b.cutError && a.needsError == b.needsError && a.whenError == b.whenError
}

// P5.7: TestInAnyOrder: neither the order in which notices are given nor how often they come matters.
func TestInAnyOrder(t *testing.T) {
	eachList(t, 300, 9, 40, func(t *testing.T, r *rand.Rand, f api.Field, l []api.Notice) {
		other := slices.Clone(l)
		for range min(r.IntN(9), len(l)) {
			other = append(other, l[r.IntN(len(l))])
		}
		r.Shuffle(len(other), func(i, j int) { other[i], other[j] = other[j], other[i] })
		hour := r.IntN(lastHour + 1)
		for player := range 9 {
			if a, b := all(t, f, l, hour, player), all(t, f, other, hour, player); !equal(a, b) {
				t.Errorf("%d at %d: %v, and %v with %v", player, hour, a, b, other)
			}
		}
	})
}

// P5.7: TestLaterHours: notices with a later hour change nothing.
func TestLaterHours(t *testing.T) {
	left := 0
	eachList(t, 300, 9, 40, func(t *testing.T, r *rand.Rand, f api.Field, l []api.Notice) {
		hour := r.IntN(lastHour + 1)
		early := slices.DeleteFunc(slices.Clone(l), func(n api.Notice) bool { return n.Hour > hour })
		left += len(l) - len(early)
		for player := range 9 {
			a, b := all(t, f, l, hour, player), all(t, f, early, hour, player)
			if a.when > hour {
				a.when, a.whenError = 0, api.ErrNone
			}
			if !equal(a, b) {
				t.Errorf("%d at %d: %v, and %v with %v", player, hour, a, b, early)
			}
		}
	})
	if left < 1000 {
		t.Errorf("only %d notices were later", left)
	}
}

// givenBack returns how many who had a wild card at Freeze have quit after it, up to an hour.
func givenBack(t *testing.T, f api.Field, l []api.Notice, hour int) int {
	t.Helper()
	n := 0
	for _, player := range listOf(t, f, l, f.Freeze).Wilds {
		if slices.ContainsFunc(l, func(x api.Notice) bool {
			return x.Kind == api.Quits && x.Player == player && x.Hour > f.Freeze && x.Hour <= hour
		}) {
			n++
		}
	}
	return n
}

// P5.8: TestPlaces: how many places there are, and that nobody has two.
func TestPlaces(t *testing.T) {
	more := 0
	eachList(t, 2500, 9, 40, func(t *testing.T, r *rand.Rand, f api.Field, l []api.Notice) {
		hour := r.IntN(lastHour + 1)
		list := listOf(t, f, l, hour)
		back := givenBack(t, f, l, hour)
		more += back
		if len(list.Main)+list.Open != f.Places+back || list.Open < 0 {
			t.Errorf("List at %d = %v, %d wild cards were given back", hour, list, back)
		}
		everyone := slices.Concat(list.Main, list.Wilds, list.Out)
		slices.Sort(everyone)
		if len(slices.Compact(slices.Clone(everyone))) != len(everyone) {
			t.Errorf("somebody is twice in the list at %d, %v", hour, list)
		}
		s := stateAt(f, l, hour)
		s.inside = list.Main
		if s.guards() > f.Guards || len(list.Wilds) > f.Wilds {
			t.Errorf("too many are protected or have wild cards at %d: %v", hour, list)
		}
	})
	if more < 100 {
		t.Errorf("only %d wild cards were given back", more)
	}
}

// P5.9: TestPassedOver: up to Freeze only protected alternates are before somebody in Main; after it no place is open for somebody who has signed in.
func TestPassedOver(t *testing.T) {
	passed, waiting := 0, 0
	eachList(t, 1000, 9, 40, func(t *testing.T, r *rand.Rand, f api.Field, l []api.Notice) {
		hour := r.IntN(lastHour + 1)
		list := listOf(t, f, l, hour)
		s := stateAt(f, l, hour)
		s.inside = list.Main
		full := s.guards() == f.Guards
		order := s.order()
		for _, player := range list.Out {
			at := slices.Index(order, player)
			before := slices.ContainsFunc(list.Main, func(other int) bool { return slices.Index(order, other) > at })
			may := hour <= f.Freeze && (before || list.Open > 0)
			if may {
				passed++
			}
			if late := hour > f.Freeze && list.Open > 0; late {
				may = slices.Contains(s.signed, player)
				waiting++
			}
			if may && !(s.guarded(player) && full) {
				t.Errorf("%d is out at %d: %v", player, hour, list)
			}
		}
	})
	if passed < 100 || waiting < 100 {
		t.Errorf("only %d are passed over, %d wait", passed, waiting)
	}
}

// P5.10: TestStaysIn: from Close on who is in stays in until quitting, or getting a wild card.
func TestStaysIn(t *testing.T) {
	gone := 0
	eachList(t, 500, 9, 40, func(t *testing.T, r *rand.Rand, f api.Field, l []api.Notice) {
		for hour := f.Close; hour < lastHour; hour++ {
			next := listOf(t, f, l, hour+1)
			for _, player := range listOf(t, f, l, hour).Main {
				leaves := slices.ContainsFunc(l, func(n api.Notice) bool {
					return n.Player == player && n.Hour == hour+1 && (n.Kind == api.Quits || n.Kind == api.Wild)
				})
				if !slices.Contains(next.Main, player) {
					gone++
					if !leaves {
						t.Errorf("%d is in at %d, and not any more then: %v", player, hour, next)
					}
				}
			}
		}
	})
	if gone < 200 {
		t.Errorf("only %d were in no more", gone)
	}
}

// P5.6, P5.12: TestFirstHour: at the hour of When, that of some notice, a player is in or has a wild card, at no earlier one.
func TestFirstHour(t *testing.T) {
	never := 0
	eachList(t, 300, 9, 40, func(t *testing.T, r *rand.Rand, f api.Field, l []api.Notice) {
		for player := range 9 {
			first := -1
			for hour := range lastHour + 2 {
				if where, _, _ := entry.Stand(f, l, hour, player); first == -1 && (where == 1 || where == 2) {
					first = hour
				}
			}
			when, e := entry.When(f, l, player)
			if first == -1 {
				never++
				if when != 0 || e != api.ErrNone {
					t.Errorf("When of %d = %d, %d, who is never in", player, when, e)
				}
				continue
			}
			if when != first || e != api.OK || !slices.ContainsFunc(l, func(n api.Notice) bool { return n.Hour == when }) {
				t.Errorf("When of %d = %d, %d instead of %d", player, when, e, first)
			}
		}
	})
	if never < 200 || never > 2000 {
		t.Errorf("%d are never in", never)
	}
}
