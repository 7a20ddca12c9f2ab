package balls_test

import (
	"math/rand/v2"
	"slices"
	"testing"

	"deuce/api"
	"deuce/balls"
	"deuce/score"
)

// P9.7: TestAnyCourse: what comes in a match that is played to its end is within Rest of each board on its way.
func TestAnyCourse(t *testing.T) {
	ended := 0
	for seed := range uint64(400) {
		r := random(seed)
		f := randomFormat(r, api.MaxGames)
		points, over := randomMatch(r, f)
		if !over {
			continue
		}
		ended++
		end, _ := score.Play(f, 0, points)
		for n := 0; n <= len(points); n += 1 + r.IntN(9) {
			s, _ := score.Play(f, 0, points[:n])
			changes, sets, e := balls.Rest(f, s.Board)
			c, d := end.Balls-s.Balls, len(end.Board.Sets)-setsBegun(s.Board)
			if e != api.OK || c < changes.Low || c > changes.High || d < sets.Low || d > sets.High {
				t.Fatalf("%+v, %v: %d changes and %d sets come, Rest = %v, %v, %d", f, s.Board, c, d, changes, sets, e)
			}
		}
		if changes, sets, e := balls.Rest(f, end.Board); changes != span(0, 0) || sets != span(0, 0) || e != api.OK {
			t.Fatalf("%+v, %v: Rest = %v, %v, %d", f, end.Board, changes, sets, e)
		}
	}
	if ended < 300 {
		t.Errorf("only %d came to their ends", ended)
	}
}

// behindPoint returns Rest of the board behind one more point, and what came with it.
func behindPoint(t *testing.T, f api.Format, points []int, side int) (changes, sets api.Span) {
	t.Helper()
	before, _ := score.Play(f, 0, points)
	now, e := score.Play(f, 0, append(slices.Clone(points), side))
	if e != api.OK {
		t.Fatalf("Play: %d", e)
	}
	changes, sets, e = balls.Rest(f, now.Board)
	if e != api.OK {
		t.Fatalf("%+v, %v: Rest: %d", f, now.Board, e)
	}
	c, d := now.Balls-before.Balls, setsBegun(now.Board)-setsBegun(before.Board)
	return span(changes.Low+c, changes.High+c), span(sets.Low+d, sets.High+d)
}

// P9.8: TestBothEnds: of both boards that can come next one has the least that was, one the greatest, and none anything beyond.
func TestBothEnds(t *testing.T) {
	both := func(a, b api.Span) api.Span { return span(min(a.Low, b.Low), max(a.High, b.High)) }
	for seed := range uint64(400) {
		r := random(seed)
		f := randomFormat(r, api.MaxGames)
		points, over := randomMatch(r, f)
		if !over {
			continue
		}
		for n := r.IntN(5); n < len(points); n += 1 + r.IntN(9) {
			s, _ := score.Play(f, 0, points[:n])
			changes, sets, e := balls.Rest(f, s.Board)
			c, u := behindPoint(t, f, points[:n], 0)
			d, v := behindPoint(t, f, points[:n], 1)
			if e != api.OK || changes != both(c, d) || sets != both(u, v) {
				t.Fatalf("%+v, %v: Rest = %v, %v, %d; behind a point %v or %v, %v or %v", f, s.Board, changes, sets, e, c, d, u, v)
			}
		}
	}
}

// P9.9: TestTogether: Need is the sum over the matches, each of them alone in a depot, and Left follows from day to day.
func TestTogether(t *testing.T) {
	eachDepot(t, 150, func(t *testing.T, r *rand.Rand, d api.Depot) {
		item := r.IntN(3)
		needs, lefts := allNeeds(t, d, item), allLefts(t, d, item)
		sums := make([]api.Span, api.MaxDay+1)
		for i, f := range d.Fixtures {
			alone := d
			alone.Fixtures = d.Fixtures[i : i+1]
			s, e := balls.Need(alone, item, f.Day)
			if e != api.OK {
				t.Fatalf("Need: %d", e)
			}
			sums[f.Day] = span(sums[f.Day].Low+s.Low, sums[f.Day].High+s.High)
		}
		left := span(d.Stock[item], d.Stock[item])
		for day, s := range lefts {
			n := crateOf(d, item, day)
			if needs[day] != sums[day] || s != span(left.Low+n-needs[day].High, left.High+n-needs[day].Low) {
				t.Errorf("%d on %d: Need = %v instead of %v, Left = %v behind %v", item, day, needs[day], sums[day], s, left)
			}
			left = s
		}
	})
}

// P9.10: TestShort: before the first day of Short nothing can be short, on it something can.
func TestShort(t *testing.T) {
	shorts, surelies := 0, 0
	eachDepot(t, 300, func(t *testing.T, r *rand.Rand, d api.Depot) {
		item := r.IntN(3)
		may, surely, e := balls.Short(d, item)
		if e != api.OK || (surely != -1 && (may == -1 || surely < may)) {
			t.Errorf("%d: Short = %d, %d, %d", item, may, surely, e)
		}
		for day, s := range allLefts(t, d, item) {
			if s.Low > s.High || (may == -1 || day < may) && s.Low < 0 || day == may && s.Low >= 0 {
				t.Errorf("%d: Short = %d, Left on %d = %v", item, may, day, s)
			}
			if (surely == -1 || day < surely) && s.High < 0 || day == surely && s.High >= 0 {
				t.Errorf("%d: Short = %d, surely, Left on %d = %v", item, surely, day, s)
			}
		}
		if may != -1 {
			shorts++
		}
		if surely != -1 {
			surelies++
		}
		ended := copied(d)
		for i := range ended.Fixtures {
			ended.Fixtures[i] = overOn(ended.Fixtures[i].Day)
		}
		ended.Stock = make([]int, 3)
		if may, surely, e := balls.Short(ended, item); may != -1 || surely != -1 || e != api.OK {
			t.Errorf("%d: Short of matches that are over = %d, %d, %d", item, may, surely, e)
		}
	})
	if shorts < 50 || surelies < 20 {
		t.Errorf("only %d can be short, %d surely are", shorts, surelies)
	}
}

// withCrate returns the depot with one more crate.
func withCrate(d api.Depot, day, item, count int) api.Depot {
	d = copied(d)
	d.Crates = append(d.Crates, api.Crate{Day: day, Item: item, Count: count})
	return d
}

// canBeShort reports whether an item can be short on a day or later.
func canBeShort(t *testing.T, d api.Depot, item, day int) bool {
	t.Helper()
	return slices.ContainsFunc(allLefts(t, d, item)[day:], func(s api.Span) bool { return s.Low < 0 })
}

// P9.6, P9.11: TestOrder: with a crate of Order nothing can be short from its day on, with one of 1 less something can.
func TestOrder(t *testing.T) {
	ordered := 0
	eachDepot(t, 300, func(t *testing.T, r *rand.Rand, d api.Depot) {
		item, day := r.IntN(3), r.IntN(7)
		if r.IntN(5) == 0 {
			day = api.MaxDay
		}
		n, e := balls.Order(d, item, day)
		if n < 0 || e != api.OK || canBeShort(t, withCrate(d, day, item, n), item, day) {
			t.Errorf("%d on %d: Order = %d, %d, but it can be short", item, day, n, e)
		}
		if n == 0 {
			return
		}
		ordered++
		if !canBeShort(t, withCrate(d, day, item, n-1), item, day) {
			t.Errorf("%d on %d: Order = %d, but with 1 less it cannot be short", item, day, n)
		}
		if may, _, e := balls.Short(withCrate(d, 0, item, n), item); e != api.OK || may >= day {
			t.Errorf("%d on %d: Short = %d, %d with %d more from the day 0 on", item, day, may, e, n)
		}
	})
	if ordered < 50 {
		t.Errorf("only %d need an order", ordered)
	}
}

// P9.12: TestMoreAndLess: with one more crate nothing is short earlier, with one more match nothing is short later.
func TestMoreAndLess(t *testing.T) {
	// notBefore reports whether a day of Short is another one or a later one.
	notBefore := func(a, b int) bool { return a == -1 || b != -1 && b <= a }
	later, earlier := 0, 0
	eachDepot(t, 600, func(t *testing.T, r *rand.Rand, d api.Depot) {
		item := r.IntN(3)
		may, surely, e := balls.Short(d, item)
		more := withCrate(d, r.IntN(5), r.IntN(3), r.IntN(60))
		a, b, f := balls.Short(more, item)
		if e != api.OK || f != api.OK || !notBefore(a, may) || !notBefore(b, surely) {
			t.Errorf("%d: Short = %d, %d, %d; with one more crate %d, %d, %d", item, may, surely, e, a, b, f)
		}
		if a != may {
			later++
		}
		g := randomFormat(r, 3)
		busy := copied(d)
		busy.Fixtures = append(busy.Fixtures, api.Fixture{Day: r.IntN(5), Format: g, Board: randomBoard(r, g)})
		a, b, f = balls.Short(busy, item)
		if f != api.OK || !notBefore(may, a) || !notBefore(surely, b) {
			t.Errorf("%d: Short = %d, %d, %d; with one more match %d, %d, %d", item, may, surely, e, a, b, f)
		}
		if a != may {
			earlier++
		}
	})
	if later < 20 || earlier < 20 {
		t.Errorf("only %d are short later with a crate, %d earlier with a match", later, earlier)
	}
}
