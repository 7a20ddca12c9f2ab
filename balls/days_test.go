package balls_test

import (
	"math/rand/v2"
	"testing"

	"deuce/api"
	"deuce/balls"
)

// P9.3, P9.4: TestNeedAndLeft: what matches need, and what is left, counted by hand.
func TestNeedAndLeft(t *testing.T) {
	double := with(func(d *api.Depot) { d.Fixtures[0].Format.Doubles = true })
	over := with(func(d *api.Depot) { d.Fixtures[0] = overOn(1) })
	point := with(func(d *api.Depot) { d.Fixtures[0].Board = atPoints(in(), 1, 0) })
	set := with(func(d *api.Depot) { d.Fixtures[0].Board = in(pair(2, 0), pair(0, 0)) })
	twice := with(func(d *api.Depot) { d.Fixtures[1] = d.Fixtures[0]; d.Crates = append(d.Crates, d.Crates[0]) })
	first := with(func(d *api.Depot) { d.Fixtures[2].Day, d.Crates[0].Day = 0, 0 })
	last := with(func(d *api.Depot) { d.Fixtures[0].Day, d.Crates[0] = 60, api.Crate{Day: 60, Item: 1, Count: 9} })
	nothing := with(func(d *api.Depot) { d.Kit = api.Kit{} })
	for name, l := range map[string][]struct {
		d          api.Depot
		item, day  int
		need, left api.Span
	}{
		"the example, cans":     {{depot(), 0, 0, span(0, 0), span(10, 10)}, {depot(), 0, 1, span(4, 10), span(0, 6)}, {depot(), 0, 2, span(4, 8), span(-5, 5)}, {depot(), 0, 60, span(0, 0), span(-5, 5)}},
		"the example, towels":   {{depot(), 1, 0, span(0, 0), span(30, 30)}, {depot(), 1, 1, span(12, 24), span(6, 18)}, {depot(), 1, 2, span(12, 18), span(-12, 6)}, {depot(), 1, 3, span(0, 0), span(-12, 6)}},
		"the example, racquets": {{depot(), 2, 1, span(2, 2), span(7, 7)}, {depot(), 2, 2, span(2, 2), span(5, 5)}},
		"doubles":               {{double, 0, 1, span(4, 10), span(0, 6)}, {double, 1, 1, span(24, 42), span(-12, 6)}, {double, 2, 1, span(4, 4), span(5, 5)}},
		"over":                  {{over, 0, 1, span(0, 2), span(8, 10)}, {over, 1, 1, span(0, 6), span(24, 30)}, {over, 2, 1, span(0, 0), span(9, 9)}},
		"a point was played":    {{point, 0, 1, span(2, 8), span(2, 8)}, {point, 1, 1, span(6, 18), span(12, 24)}, {point, 2, 1, span(0, 0), span(9, 9)}},
		"a set is over":         {{set, 0, 1, span(0, 4), span(6, 10)}, {set, 1, 1, span(6, 18), span(12, 24)}, {set, 2, 1, span(0, 0), span(9, 9)}},
		"matches, crates twice": {{twice, 0, 1, span(8, 16), span(-6, 2)}, {twice, 1, 1, span(24, 36), span(-6, 6)}, {twice, 2, 1, span(4, 4), span(5, 5)}, {twice, 0, 2, span(4, 8), span(-8, 4)}},
		"on the day 0":          {{first, 0, 0, span(4, 8), span(5, 9)}, {first, 1, 0, span(12, 18), span(12, 18)}, {first, 0, 2, span(0, 0), span(-5, 5)}},
		"on the last day":       {{last, 1, 59, span(0, 0), span(6, 18)}, {last, 1, 60, span(12, 18), span(-3, 15)}, {last, 0, 60, span(4, 8), span(-8, 2)}},
		"nothing is needed":     {{nothing, 0, 1, span(0, 0), span(10, 10)}, {nothing, 0, 2, span(0, 0), span(13, 13)}, {nothing, 1, 2, span(0, 0), span(30, 30)}, {nothing, 2, 2, span(0, 0), span(9, 9)}},
	} {
		for _, x := range l {
			need, e := balls.Need(x.d, x.item, x.day)
			left, f := balls.Left(x.d, x.item, x.day)
			if need != x.need || left != x.left || e != api.OK || f != api.OK {
				t.Errorf("%s: %d on %d: Need = %v, %d; Left = %v, %d instead of %v, %v", name, x.item, x.day, need, e, left, f, x.need, x.left)
			}
		}
	}
}

// P9.5, P9.6: TestShortAndOrder: when something is short, and what must be ordered, counted by hand.
func TestShortAndOrder(t *testing.T) {
	poor := with(func(d *api.Depot) { d.Stock = []int{3, 11, 1} })
	enough := with(func(d *api.Depot) { d.Stock = []int{15, 42, 4} })
	scarce := with(func(d *api.Depot) { d.Stock = []int{14, 41, 3} })
	later := with(func(d *api.Depot) { d.Crates = []api.Crate{{Day: 3, Item: 0, Count: 99}} })
	last := with(func(d *api.Depot) { d.Stock, d.Fixtures[2].Day = []int{10, 24, 3}, 60 })
	between := with(func(d *api.Depot) { d.Stock, d.Crates[0].Count = []int{7, 0, 0}, 11 })
	for name, l := range map[string][]struct {
		d                             api.Depot
		item, day, may, surely, order int
	}{
		"the example":              {{depot(), 0, 2, 2, -1, 5}, {depot(), 0, 1, 2, -1, 5}, {depot(), 0, 60, 2, -1, 5}, {depot(), 1, 0, 2, -1, 12}, {depot(), 2, 1, -1, -1, 0}},
		"poor":                     {{poor, 0, 1, 1, 1, 12}, {poor, 1, 1, 1, 1, 31}, {poor, 2, 1, 1, 1, 3}, {poor, 2, 3, 1, 1, 3}},
		"just enough":              {{enough, 0, 0, -1, -1, 0}, {enough, 1, 2, -1, -1, 0}, {enough, 2, 2, -1, -1, 0}},
		"just not enough":          {{scarce, 0, 0, 2, -1, 1}, {scarce, 1, 2, 2, -1, 1}, {scarce, 2, 2, 2, 2, 1}},
		"a crate comes later":      {{later, 0, 0, 2, -1, 8}, {later, 0, 2, 2, -1, 8}, {later, 0, 3, 2, -1, 0}},
		"short on the last day":    {{last, 0, 0, 60, -1, 5}, {last, 1, 60, 60, -1, 18}, {last, 2, 60, 60, 60, 1}},
		"short on a day before it": {{between, 0, 0, 1, -1, 3}, {between, 0, 1, 1, -1, 3}, {between, 0, 2, 1, -1, 0}},
	} {
		for _, x := range l {
			may, surely, e := balls.Short(x.d, x.item)
			n, f := balls.Order(x.d, x.item, x.day)
			if may != x.may || surely != x.surely || n != x.order || e != api.OK || f != api.OK {
				t.Errorf("%s: %d on %d: Short = %d, %d, %d; Order = %d, %d instead of %d, %d; %d", name, x.item, x.day, may, surely, e, n, f, x.may, x.surely, x.order)
			}
		}
	}
}

// P9.3 to P9.6: TestByWords: days and numbers are what the chapter says, for random depots.
func TestByWords(t *testing.T) {
	shorts, surelies := 0, 0
	eachDepot(t, 300, func(t *testing.T, r *rand.Rand, d api.Depot) {
		item := r.IntN(3)
		needs, lefts := allNeeds(t, d, item), allLefts(t, d, item)
		wantMay, wantSurely := -1, -1
		left := span(d.Stock[item], d.Stock[item])
		for day := range api.MaxDay + 1 {
			need, crates := needBy(t, d, item, day), crateOf(d, item, day)
			left = span(left.Low+crates-need.High, left.High+crates-need.Low)
			if needs[day] != need || lefts[day] != left {
				t.Errorf("%d on %d: Need = %v, Left = %v instead of %v, %v", item, day, needs[day], lefts[day], need, left)
			}
			if left.Low < 0 && wantMay == -1 {
				wantMay = day
				shorts++
			}
			if left.High < 0 && wantSurely == -1 {
				wantSurely = day
				surelies++
			}
		}
		may, surely, e := balls.Short(d, item)
		if may != wantMay || surely != wantSurely || e != api.OK {
			t.Errorf("%d: Short = %d, %d, %d instead of %d, %d", item, may, surely, e, wantMay, wantSurely)
		}
		for _, day := range []int{0, 1, 2, 3, 4, 5, 59, 60} {
			want := 0
			for _, s := range lefts[day:] {
				want = max(want, -s.Low)
			}
			if n, e := balls.Order(d, item, day); n != want || e != api.OK {
				t.Errorf("%d on %d: Order = %d, %d instead of %d", item, day, n, e, want)
			}
		}
	})
	if shorts < 50 || surelies < 20 {
		t.Errorf("only %d can be short, %d surely are", shorts, surelies)
	}
}

// P1, P9.3 to P9.6: TestMost: the most matches with the most games, sets and players, and all that they need.
func TestMost(t *testing.T) {
	d := api.Depot{Kit: api.Kit{Each: 20, Towels: 20, Frames: 20}, Stock: make([]int, 3)}
	for i := range api.MaxFixtures {
		f := api.Format{Sets: 3, Games: 8, Tie: 8, To: 15, LastTie: 8, LastTo: 15, First: 1, Then: 1, Doubles: true}
		d.Fixtures = append(d.Fixtures, api.Fixture{Day: i % 3, Format: f})
	}
	// From 24 to 85 games, each of them with new balls, but for the tie-breaks, of which there are at most five.
	for item, wanted := range []api.Span{span(30*24*20, 30*80*20), span(30*12*20, 30*20*20), span(30*80, 30*80)} {
		s, e := balls.Left(d, item, 60)
		if s != span(-wanted.High, -wanted.Low) || e != api.OK {
			t.Errorf("item %d: Left = %v, %d instead of %v less", item, s, e, wanted)
		}
		may, surely, e := balls.Short(d, item)
		n, f := balls.Order(d, item, 60)
		if may != 0 || surely != 0 || e != api.OK || n != wanted.High || f != api.OK {
			t.Errorf("item %d: Short = %d, %d, %d; Order = %d, %d", item, may, surely, e, n, f)
		}
	}
}
