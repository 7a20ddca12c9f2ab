package entry_test

import (
	"fmt"
	"math/rand/v2"
	"slices"
	"testing"

	"deuce/api"
	"deuce/entry"
)

// P5.4: TestCut: the rank of the last one who is in by the ranking.
func TestCut(t *testing.T) {
	f := api.Field{Places: 3, Wilds: 1, Guards: 2, Close: 10, Freeze: 20}
	for name, x := range map[string]struct {
		f    api.Field
		l    []api.Notice
		hour int
		want int
		e    api.Errno
	}{
		"nobody":                      {field(), example(), 0, 0, api.ErrNone},
		"one":                         {field(), example(), 1, 50, api.OK},
		"the last of three":           {field(), example(), 10, 50, api.OK},
		"another one with a card":     {field(), example(), 12, 70, api.OK},
		"one without a rank":          {field(), example(), 15, 0, api.OK},
		"late":                        {field(), example(), 22, 0, api.OK},
		"only protected ones":         {f, []api.Notice{guard(0, 1, 1, 5), guard(1, 1, 2, 6), guard(2, 1, 3, 7)}, 9, 0, api.ErrNone},
		"a protected one is last":     {f, []api.Notice{guard(0, 1, 1, 9), enter(1, 1, 2, 6)}, 9, 6, api.OK},
		"a protected one is between":  {f, []api.Notice{guard(0, 1, 1, 6), enter(1, 1, 2, 5), enter(2, 1, 3, 7)}, 9, 7, api.OK},
		"alternates do not count":     {f, entered(5), 9, 3, api.OK},
		"nor do wild cards":           {f, append(entered(2), wild(9, 1, 2)), 9, 1, api.OK},
		"the last in the order, late": {f, append(entered(5), sign(8, 1, 5), quits(9, 21, 2)), 30, 5, api.OK},
		"a protected one got in last": {
			api.Field{Places: 2, Guards: 1, Close: 10, Freeze: 20},
			[]api.Notice{guard(0, 1, 5, 1), guard(1, 1, 6, 2), enter(2, 1, 2, 3), enter(3, 1, 1, 9), quits(4, 20, 2), quits(5, 21, 5), sign(6, 21, 6)},
			30, 9, api.OK,
		},
		// Main is 2 4 3 in the end, but 4 is last in the order.
		"a better one got in last": {
			api.Field{Places: 2, Wilds: 1, Close: 10, Freeze: 20},
			[]api.Notice{enter(0, 1, 1, 1), enter(1, 1, 2, 9), enter(2, 1, 3, 9), enter(3, 1, 4, 0), wild(4, 1, 70), quits(5, 21, 1), sign(6, 22, 4), quits(7, 23, 70), sign(8, 24, 3)},
			30, 0, api.OK,
		},
		"none is left": {f, append(entered(1), quits(9, 21, 1)), 30, 0, api.ErrNone},
	} {
		if n, e := entry.Cut(x.f, x.l, x.hour); n != x.want || e != x.e {
			t.Errorf("%s: Cut = %d, %d", name, n, e)
		}
	}
}

// P5.4: TestCutAll compares cuts with the chapter's words.
func TestCutAll(t *testing.T) {
	seen := map[bool]int{}
	eachList(t, 1500, 9, 40, func(t *testing.T, r *rand.Rand, f api.Field, l []api.Notice) {
		hour := r.IntN(lastHour + 1)
		s := stateAt(f, l, hour)
		want, wantError := 0, api.ErrNone
		for _, player := range s.order() {
			if slices.Contains(s.inside, player) && !s.guarded(player) {
				want, wantError = s.entry(player).Rank, api.OK
			}
		}
		if n, e := entry.Cut(f, l, hour); n != want || e != wantError {
			t.Errorf("Cut at %d = %d, %d instead of %d, %d", hour, n, e, want, wantError)
		}
		unlike := wantError == api.OK && len(s.inside) > 0 && s.entry(s.inside[len(s.inside)-1]).Rank != want
		seen[unlike]++
	})
	if seen[true] < 100 {
		t.Errorf("in only %d lists the last one in Main is another one", seen[true])
	}
}

// P5.5: TestNeeds: how many must quit up to Freeze, and behind it.
func TestNeeds(t *testing.T) {
	f := func(places, guards int) api.Field {
		return api.Field{Places: places, Wilds: 1, Guards: guards, Close: 10, Freeze: 20}
	}
	// The protected ones are 1, 2 and 3, the others 4, 5 and 6.
	l := func(ranks [6]int, more ...api.Notice) []api.Notice {
		for i, rank := range ranks {
			kind := api.Guard
			if i >= 3 {
				kind = api.Enter
			}
			more = append(more, api.Notice{Id: i, Hour: 1, Kind: kind, Player: i + 1, Rank: rank})
		}
		return more
	}
	first, last, mixed := [6]int{1, 2, 3, 4, 5, 6}, [6]int{4, 5, 6, 1, 2, 3}, [6]int{1, 3, 5, 2, 4, 6}
	here := []api.Notice{sign(10, 2, 1), sign(11, 2, 2), sign(12, 2, 3), sign(13, 2, 4), sign(14, 2, 5), sign(15, 2, 6)}
	for name, x := range map[string]struct {
		f            api.Field
		l            []api.Notice
		hour, player int
		want         int
		e            api.Errno
	}{
		"is in":                             {f(2, 1), l(first), 9, 1, 0, api.OK},
		"is no entry":                       {f(2, 1), l(first), 9, 7, 0, api.ErrNone},
		"is no entry yet":                   {f(2, 1), l(first), 0, 1, 0, api.ErrNone},
		"has quit":                          {f(2, 1), l(first, quits(9, 2, 6)), 9, 6, 0, api.ErrNone},
		"has a wild card":                   {f(2, 1), l(first, wild(9, 2, 6)), 9, 6, 0, api.ErrNone},
		"the next one":                      {f(2, 1), l(first), 9, 5, 1, api.OK},
		"one more":                          {f(2, 1), l(first), 9, 6, 2, api.OK},
		"a protected one":                   {f(2, 1), l(first), 9, 2, 1, api.OK},
		"another protected one":             {f(2, 1), l(first), 9, 3, 2, api.OK},
		"no protected ones":                 {f(2, 0), l(first), 9, 1, 0, api.ErrNone},
		"no protected ones, and places":     {f(9, 0), l(first), 9, 1, 0, api.ErrNone},
		"open places, and passed over":      {f(9, 1), l(first), 9, 3, 2, api.OK},
		"all are before":                    {f(2, 1), l(last), 9, 1, 2, api.OK},
		"all are before, and a protected":   {f(2, 1), l(last), 9, 2, 3, api.OK},
		"as many protected ones as places":  {f(1, 1), l(first), 9, 6, 5, api.OK},
		"more protected ones than places":   {f(1, 3), l(first), 9, 4, 3, api.OK},
		"protected ones come and go":        {f(1, 1), l(mixed), 9, 6, 5, api.OK},
		"protected ones stay":               {f(2, 1), l(mixed), 9, 6, 2, api.OK},
		"two protected ones stay":           {f(3, 2), l(mixed), 9, 6, 2, api.OK},
		"protected ones as early as can be": {f(2, 1), l(mixed), 9, 3, 3, api.OK},
		"at Freeze":                         {f(2, 1), l(first), 20, 6, 2, api.OK},
		"behind Freeze, not signed in":      {f(2, 1), l(first), 21, 6, 0, api.ErrNone},
		"behind Freeze, is in":              {f(2, 1), l(first), 21, 4, 0, api.OK},
		"behind Freeze":                     {f(2, 1), l(first, here...), 21, 6, 2, api.OK},
		"behind Freeze, a protected one":    {f(2, 1), l(first, here...), 21, 3, 2, api.OK},
		"behind Freeze, before others":      {f(2, 1), l(first, here[5]), 21, 6, 1, api.OK},
		"behind Freeze, all are before":     {f(2, 1), l(last, here...), 21, 2, 3, api.OK},
		"behind Freeze, all others stay":    {f(1, 1), l(last, here...), 21, 1, 3, api.OK},
		"behind Freeze, none protected":     {f(2, 0), l(first, here...), 21, 1, 0, api.ErrNone},
		"behind Freeze, none is in":         {f(1, 0), l(first, append(slices.Clone(here[:3]), quits(20, 21, 4))...), 21, 5, 0, api.ErrNone},
		"behind Freeze, an open place":      {f(2, 1), l(first, sign(10, 2, 2), quits(11, 21, 4)), 21, 2, 1, api.OK},
		"behind Freeze, open, two of them":  {f(2, 1), l(first, sign(10, 2, 2), sign(11, 2, 3), quits(12, 21, 4)), 21, 3, 2, api.OK},
		"behind Freeze, who moved up goes":  {f(1, 1), l(first, here...), 21, 6, 5, api.OK},
	} {
		if n, e := entry.Needs(x.f, x.l, x.hour, x.player); n != x.want || e != x.e {
			t.Errorf("%s: Needs = %d, %d", name, n, e)
		}
	}
}

// P5.5: TestNeedsOfMany: as many entries as there can be.
func TestNeedsOfMany(t *testing.T) {
	one, all := api.Field{Places: 1, Guards: 1, Freeze: 20}, api.Field{Places: 32, Guards: 32, Freeze: 20}
	guarded := entered(60)
	for i := range guarded {
		guarded[i].Kind = api.Guard
	}
	for i, l := range [][]api.Notice{entered(60), guarded} {
		for player := 1; player <= 60; player++ {
			if n, e := entry.Needs(one, l, 20, player); n != player-1 || e != api.OK {
				t.Errorf("%d: Needs of %d = %d, %d", i, player, n, e)
			}
			if n, e := entry.Needs(all, l, 20, player); n != max(0, player-32) || e != api.OK {
				t.Errorf("%d: Needs of %d = %d, %d with all places", i, player, n, e)
			}
			if n, e := entry.Needs(all, l, 21, player); player > 32 && (n != 0 || e != api.ErrNone) {
				t.Errorf("%d: Needs of %d = %d, %d behind Freeze", i, player, n, e)
			}
		}
	}
}

// ownId is above the Ids of all random notices.
const ownId = 900

// course is who has quit one after the other, and the list then.
type course struct {
	quit []int
	list api.Entries
}

// longer returns the courses with one more of Main who quits at an hour, but for a certain player; of courses in which the same ones quit, and the same ones are in, just one.
func longer(t *testing.T, f api.Field, l []api.Notice, hour, player int, from []course) []course {
	t.Helper()
	var out []course
	seen := map[string]bool{}
	for _, c := range from {
		for _, next := range c.list.Main {
			if next == player {
				continue
			}
			quit := append(slices.Clone(c.quit), next)
			more := slices.Clone(l)
			for i, number := range quit {
				more = append(more, quits(ownId+i, hour, number))
			}
			list := listOf(t, f, more, hour)
			key := fmt.Sprint(slices.Sorted(slices.Values(quit)), slices.Sorted(slices.Values(list.Main)))
			if !seen[key] {
				seen[key] = true
				out = append(out, course{quit, list})
			}
		}
	}
	return out
}

// needsBy returns with how many of Main quitting a player can be in, -1 if never; all courses are tried.
func needsBy(t *testing.T, f api.Field, l []api.Notice, hour, player int) int {
	t.Helper()
	courses := []course{{nil, listOf(t, f, l, hour)}}
	for n := 0; len(courses) > 0; n++ {
		if slices.ContainsFunc(courses, func(c course) bool { return slices.Contains(c.list.Main, player) }) {
			return n
		}
		courses = longer(t, f, l, hour, player, courses)
	}
	return -1
}

// P5.5, P5.11: TestNeedsAll: with fewer who quit the player is not in, whoever they are, and for some as many it is.
func TestNeedsAll(t *testing.T) {
	seen := map[string]int{}
	eachList(t, 500, 8, 30, func(t *testing.T, r *rand.Rand, f api.Field, l []api.Notice) {
		hour := r.IntN(lastHour + 1)
		list := listOf(t, f, l, hour)
		for player := range 9 {
			n, e := entry.Needs(f, l, hour, player)
			want := needsBy(t, f, l, hour, player)
			if want == -1 && (n != 0 || e != api.ErrNone) || want >= 0 && (n != want || e != api.OK) {
				t.Errorf("Needs of %d at %d = %d, %d instead of %d", player, hour, n, e, want)
			}
			if slices.Contains(list.Out, player) {
				seen[fmt.Sprint(hour > f.Freeze, max(-1, min(want, 2)))]++
			}
		}
	})
	for _, late := range []bool{false, true} {
		for _, want := range []int{-1, 1, 2} {
			if n := seen[fmt.Sprint(late, want)]; n < 20 {
				t.Errorf("late %v: only %d alternates need %d", late, n, want)
			}
		}
	}
}

// P5.6: TestWhen: the first hour after whose notices a player is in, or has a wild card.
func TestWhen(t *testing.T) {
	f := api.Field{Places: 1, Wilds: 1, Close: 10, Freeze: 20}
	for name, x := range map[string]struct {
		f      api.Field
		l      []api.Notice
		player int
		want   int
		e      api.Errno
	}{
		"at once":                       {field(), example(), 7, 1, api.OK},
		"later":                         {field(), example(), 5, 12, api.OK},
		"later still":                   {field(), example(), 4, 15, api.OK},
		"never, passed over":            {field(), example(), 6, 0, api.ErrNone},
		"never, entered too late":       {field(), example(), 3, 0, api.ErrNone},
		"never heard of":                {field(), example(), 0, 0, api.ErrNone},
		"quit since":                    {field(), example(), 8, 2, api.OK},
		"by a wild card":                {f, []api.Notice{wild(0, 7, 1)}, 1, 7, api.OK},
		"by a wild card, before":        {f, append(entered(2), wild(10, 7, 2), quits(11, 9, 1)), 2, 7, api.OK},
		"by a wild card, behind":        {f, append(entered(2), wild(10, 9, 2), quits(11, 7, 1)), 2, 7, api.OK},
		"in the hour 0":                 {f, entered(2), 1, 0, api.OK},
		"behind Freeze":                 {f, append(entered(2), quits(10, 21, 1), sign(11, 25, 2)), 2, 25, api.OK},
		"behind Freeze, never":          {f, append(entered(2), quits(10, 21, 1), sign(11, 25, 3)), 2, 0, api.ErrNone},
		"in the last hour":              {f, append(entered(2), quits(10, 21, 1), sign(11, 9999, 2)), 2, 9999, api.OK},
		"only within an hour":           {f, []api.Notice{enter(0, 3, 1, 5), enter(1, 3, 2, 4)}, 1, 0, api.ErrNone},
		"within an hour, the last":      {f, []api.Notice{enter(0, 3, 1, 5), enter(1, 3, 2, 4)}, 2, 3, api.OK},
		"within an hour, then again":    {f, []api.Notice{enter(0, 3, 1, 5), enter(1, 3, 2, 4), quits(2, 8, 2)}, 1, 8, api.OK},
		"within an hour behind Freeze":  {f, append(entered(2), quits(10, 21, 1), sign(11, 21, 2), quits(12, 21, 2)), 2, 0, api.ErrNone},
		"a wild card, within an hour":   {f, []api.Notice{wild(0, 3, 1), quits(1, 3, 1)}, 1, 0, api.ErrNone},
		"not by the Ids, but the hours": {f, []api.Notice{enter(5, 3, 1, 5), enter(1, 9, 2, 4)}, 1, 3, api.OK},
	} {
		for range 2 {
			if hour, e := entry.When(x.f, x.l, x.player); hour != x.want || e != x.e {
				t.Errorf("%s: When = %d, %d", name, hour, e)
			}
			slices.Reverse(x.l)
		}
	}
}
