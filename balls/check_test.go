package balls_test

import (
	"math"
	"reflect"
	"slices"
	"testing"

	"deuce/api"
	"deuce/balls"
)

// everything checks that all functions of a depot return an error, and nothing else.
func everything(t *testing.T, name string, d api.Depot, item, day int, wanted api.Errno) {
	t.Helper()
	check := func(function string, zero bool, e api.Errno) {
		t.Helper()
		if !zero || e != wanted {
			t.Errorf("%s: %s: zero %v, %d instead of %d", name, function, zero, e, wanted)
		}
	}
	s, e := balls.Need(d, item, day)
	check("Need", s == span(0, 0), e)
	s, e = balls.Left(d, item, day)
	check("Left", s == span(0, 0), e)
	n, e := balls.Order(d, item, day)
	check("Order", n == 0, e)
	if wanted == api.ErrArg && item >= 0 && item <= 2 {
		return
	}
	may, surely, e := balls.Short(d, item)
	check("Short", may == 0 && surely == 0, e)
}

// numbers is where a depot has numbers, each with the least and the greatest one that is valid.
func numbers() map[string]struct {
	low, high int
	set       func(d *api.Depot, n int)
} {
	type place = struct {
		low, high int
		set       func(d *api.Depot, n int)
	}
	return map[string]place{
		"Each":             {0, 20, func(d *api.Depot, n int) { d.Kit.Each = n }},
		"Towels":           {0, 20, func(d *api.Depot, n int) { d.Kit.Towels = n }},
		"Frames":           {0, 20, func(d *api.Depot, n int) { d.Kit.Frames = n }},
		"cans":             {0, 99999, func(d *api.Depot, n int) { d.Stock[0] = n }},
		"towels":           {0, 99999, func(d *api.Depot, n int) { d.Stock[1] = n }},
		"racquets":         {0, 99999, func(d *api.Depot, n int) { d.Stock[2] = n }},
		"day of a match":   {0, 60, func(d *api.Depot, n int) { d.Fixtures[2].Day = n }},
		"day of a crate":   {0, 60, func(d *api.Depot, n int) { d.Crates[0].Day = n }},
		"item of a crate":  {0, 2, func(d *api.Depot, n int) { d.Crates[0].Item = n }},
		"count of a crate": {0, 99999, func(d *api.Depot, n int) { d.Crates[0].Count = n }},
		"sets to win":      {1, 3, func(d *api.Depot, n int) { d.Fixtures[0].Format.Sets = n }},
		"first balls":      {0, 20, func(d *api.Depot, n int) { d.Fixtures[2].Format.First = n }},
		"points":           {0, 3, func(d *api.Depot, n int) { d.Fixtures[0].Board.Points.B = n }},
		"games":            {0, 2, func(d *api.Depot, n int) { d.Fixtures[1].Board.Games.A, d.Fixtures[1].Board.Games.B = n, 1 }},
		"games of a set":   {3, 3, func(d *api.Depot, n int) { d.Fixtures[1].Board.Sets[0].A = n }},
	}
}

// P1, P9.1: TestNumbers: each number of a depot has its bounds.
func TestNumbers(t *testing.T) {
	for name, x := range numbers() {
		for _, n := range []int{x.low, x.high} {
			d := depot()
			x.set(&d, n)
			if e := balls.Check(d); e != api.OK {
				t.Errorf("%s: Check of %d: %d", name, n, e)
			}
		}
		for _, n := range []int{x.low - 1, x.high + 1, 41, -1 << 32, 1<<32 + 1, math.MinInt, math.MaxInt} {
			if n >= x.low && n <= x.high {
				continue
			}
			d := depot()
			x.set(&d, n)
			if e := balls.Check(d); e != api.ErrDepot {
				t.Errorf("%s: Check of %d: %d", name, n, e)
			}
			everything(t, name, d, 0, 0, api.ErrDepot)
			everything(t, name, d, n, n, api.ErrDepot)
			everything(t, name, d, 3, 61, api.ErrDepot)
		}
	}
}

// invalid is changes by which the example is not valid any more.
func invalid() map[string]func(d *api.Depot) {
	board := func(b api.Board) func(d *api.Depot) {
		return func(d *api.Depot) { d.Fixtures[2].Board = b }
	}
	format := func(change func(f *api.Format)) func(d *api.Depot) {
		return func(d *api.Depot) { change(&d.Fixtures[2].Format) }
	}
	return map[string]func(d *api.Depot){
		"nothing":              func(d *api.Depot) { *d = api.Depot{} },
		"no stock":             func(d *api.Depot) { d.Stock = nil },
		"two items":            func(d *api.Depot) { d.Stock = d.Stock[:2] },
		"four items":           func(d *api.Depot) { d.Stock = append(d.Stock, 0) },
		"31 matches":           func(d *api.Depot) { d.Fixtures = slices.Repeat(d.Fixtures[:1], 31) },
		"31 matches, one over": func(d *api.Depot) { d.Fixtures = append(slices.Repeat(d.Fixtures[:1], 30), overOn(60)) },
		"31 crates":            func(d *api.Depot) { d.Crates = slices.Repeat(d.Crates, 31) },
		"no format":            format(func(f *api.Format) { *f = api.Format{} }),
		"no games":             format(func(f *api.Format) { f.Games, f.Tie = 0, 0 }),
		"no tie-break":         format(func(f *api.Format) { f.Tie = -1 }),
		"no last tie-break":    format(func(f *api.Format) { f.LastTie = -1 }),
		"a tie-break to 0":     format(func(f *api.Format) { f.LastTo = 0 }),
		"no bound, over":       func(d *api.Depot) { d.Fixtures[2] = overOn(2); d.Fixtures[2].Format.LastTie = -1 },
		"not a whole set":      board(in(pair(2, 1), pair(0, 0))),
		"six sets":             board(in(pair(2, 0), pair(0, 2), pair(2, 0), pair(0, 2), pair(2, 0), pair(0, 2), pair(0, 0))),
		"a set too many":       board(in(pair(2, 0), pair(2, 0), pair(2, 0), pair(0, 0))),
		"games behind the end": board(in(pair(2, 0), pair(2, 0), pair(0, 1))),
		"games above":          board(in(pair(41, 0))),
		"games below":          board(in(pair(0, -1))),
		"too many games":       board(in(pair(2, 0))),
		"points below":         board(atPoints(in(), -1, 0)),
		"too many points":      board(atPoints(in(), 4, 0)),
		"points above":         board(atPoints(in(), 41, 41)),
	}
}

// overOn returns a match that is over.
func overOn(day int) api.Fixture {
	return api.Fixture{Day: day, Format: short(), Board: in(pair(2, 0), pair(2, 0), pair(0, 0))}
}

// P1, P9.1 to P9.6: TestInvalid: the error of the depot comes first.
func TestInvalid(t *testing.T) {
	for name, change := range invalid() {
		d := with(change)
		if e := balls.Check(d); e != api.ErrDepot {
			t.Errorf("%s: Check: %d", name, e)
		}
		for _, n := range []int{0, 1, 2, -1, 3, 60, 61, math.MinInt, math.MaxInt} {
			everything(t, name, d, n, 0, api.ErrDepot)
			everything(t, name, d, 0, n, api.ErrDepot)
		}
	}
}

// P1, P9.3 to P9.6: TestArguments: then it is asked for an item and a day that there are.
func TestArguments(t *testing.T) {
	for _, n := range []int{-1, 61, 1 << 32, -1 << 32, math.MinInt, math.MaxInt} {
		for item := range 3 {
			everything(t, "day", depot(), item, n, api.ErrArg)
		}
		everything(t, "item", depot(), n, 0, api.ErrArg)
		everything(t, "both", depot(), n, n, api.ErrArg)
	}
	everything(t, "item", depot(), 3, 60, api.ErrArg)
	everything(t, "item", api.Depot{Stock: make([]int, 3)}, 3, 0, api.ErrArg)
	for item := range 3 {
		for _, day := range []int{0, 60} {
			if _, e := balls.Need(depot(), item, day); e != api.OK {
				t.Errorf("Need of %d on %d: %d", item, day, e)
			}
		}
	}
}

// P9.1: TestValid: depots at the limits.
func TestValid(t *testing.T) {
	for name, change := range map[string]func(d *api.Depot){
		"the example":   func(d *api.Depot) {},
		"no matches":    func(d *api.Depot) { d.Fixtures = nil },
		"no crates":     func(d *api.Depot) { d.Crates = nil },
		"nothing":       func(d *api.Depot) { *d = api.Depot{Stock: []int{0, 0, 0}} },
		"30 matches":    func(d *api.Depot) { d.Fixtures = slices.Repeat(d.Fixtures[1:2], 30) },
		"30 crates":     func(d *api.Depot) { d.Crates = slices.Repeat(d.Crates, 30) },
		"over":          func(d *api.Depot) { d.Fixtures[0] = overOn(60) },
		"one set":       func(d *api.Depot) { d.Fixtures[0].Format.Sets, d.Fixtures[0].Format.Tie = 1, -1 },
		"40 points":     func(d *api.Depot) { d.Fixtures[0].Board = atPoints(in(), 40, 39) },
		"every game":    func(d *api.Depot) { d.Fixtures[0].Format.First, d.Fixtures[0].Format.Then = 1, 1 },
		"no balls":      func(d *api.Depot) { d.Fixtures[0].Format.First, d.Fixtures[0].Format.Then = 0, 20 },
		"a tie-break":   func(d *api.Depot) { d.Fixtures[0].Board = atPoints(in(pair(2, 2)), 7, 8) },
		"days together": func(d *api.Depot) { d.Fixtures[1], d.Crates[0].Day = d.Fixtures[0], 1 },
	} {
		if e := balls.Check(with(change)); e != api.OK {
			t.Errorf("%s: Check: %d", name, e)
		}
	}
}

// P1, P9.2: TestRestErrors: the error of the format comes first, then that of the board, then that there is no bound.
func TestRestErrors(t *testing.T) {
	check := func(name string, f api.Format, b api.Board, wanted api.Errno) {
		t.Helper()
		if changes, sets, e := balls.Rest(f, b); changes != span(0, 0) || sets != span(0, 0) || e != wanted {
			t.Errorf("%s: Rest = %v, %v, %d instead of %d", name, changes, sets, e, wanted)
		}
	}
	endless := like(func(f *api.Format) { f.LastTie = -1 })
	boards := []api.Board{
		in(pair(2, 1), pair(0, 0)), in(pair(41, 41)), in(pair(41, 0), pair(0, 0)), in(pair(-1, 0)), in(pair(0, math.MinInt)), in(pair(math.MaxInt, math.MaxInt)),
		in(pair(2, 0), pair(2, 0), pair(1, 0)), atPoints(in(), 4, 0), atPoints(in(), -1, -1), atPoints(in(), math.MaxInt, math.MinInt),
		in(pair(2, 0), pair(2, 0), pair(2, 0), pair(0, 0)), {Sets: make([]api.Pair, 6)}, {Sets: make([]api.Pair, 100000)}, {Sets: make([]api.Pair, 1)},
	}
	for _, b := range boards {
		check("board", short(), b, api.ErrBoard)
		check("board, no bound", endless, b, api.ErrBoard)
		check("board, no format", api.Format{}, b, api.ErrFormat)
	}
	for _, n := range []int{-2, 21, math.MinInt, math.MaxInt} {
		check("games for a tie-break", like(func(f *api.Format) { f.Tie = n }), api.Board{}, api.ErrFormat)
		check("games for the last tie-break", like(func(f *api.Format) { f.LastTie = n }), api.Board{}, api.ErrFormat)
		check("sets", like(func(f *api.Format) { f.Sets = n }), api.Board{}, api.ErrFormat)
		check("balls", like(func(f *api.Format) { f.Then = n }), api.Board{}, api.ErrFormat)
	}
	check("no bound", endless, api.Board{}, api.ErrNone)
	check("no bound, over", endless, in(pair(2, 0), pair(2, 0), pair(0, 0)), api.ErrNone)
	check("no bound before the last set", like(func(f *api.Format) { f.Tie = -1 }), in(pair(2, 0), pair(0, 2), pair(0, 0)), api.ErrNone)
	check("no bound, one set", like(func(f *api.Format) { f.Sets, f.LastTie = 1, -1 }), api.Board{}, api.ErrNone)
	if _, sets, e := balls.Rest(like(func(f *api.Format) { f.Sets, f.Tie, f.LastTie = 1, -1, 2 }), in(pair(2, 2))); sets != span(0, 0) || e != api.OK {
		t.Errorf("Rest of the only set = %v, %d", sets, e)
	}
}

// R3: TestEmpty: an empty slice is the same as none.
func TestEmpty(t *testing.T) {
	f := api.Fixture{Day: 3, Format: short()}
	empty := f
	empty.Board.Sets = []api.Pair{}
	a := api.Depot{Kit: api.Kit{Each: 1, Towels: 1, Frames: 1}, Stock: make([]int, 3), Fixtures: []api.Fixture{f}}
	b := a
	b.Fixtures, b.Crates = []api.Fixture{empty}, []api.Crate{}
	for item, wanted := range []api.Span{span(2, 4), span(4, 6), span(2, 2)} {
		for _, d := range []api.Depot{a, b} {
			if s, e := balls.Need(d, item, 3); s != wanted || e != api.OK {
				t.Errorf("item %d: Need = %v, %d", item, s, e)
			}
		}
	}
	for _, d := range []api.Depot{{Stock: make([]int, 3)}, {Stock: make([]int, 3), Fixtures: []api.Fixture{}, Crates: []api.Crate{}}} {
		may, surely, e := balls.Short(d, 1)
		if s, f := balls.Left(d, 1, 60); may != -1 || surely != -1 || e != api.OK || s != span(0, 0) || f != api.OK {
			t.Errorf("Short = %d, %d, %d; Left = %v, %d", may, surely, e, s, f)
		}
	}
}

// R4: TestMemory: no argument is changed.
func TestMemory(t *testing.T) {
	d := depot()
	sets := append(make([]api.Pair, 0, 5), pair(3, 1))
	d.Stock = append(make([]int, 0, 9), d.Stock...)
	d.Fixtures = append(make([]api.Fixture, 0, 9), d.Fixtures...)
	d.Crates = append(make([]api.Crate, 0, 9), d.Crates...)
	d.Fixtures[1].Board.Sets = sets
	before := copied(d)
	for range 2 {
		for item := range 3 {
			for _, day := range []int{0, 2, 60} {
				balls.Need(d, item, day)
				balls.Left(d, item, day)
				balls.Order(d, item, day)
			}
			balls.Short(d, item)
		}
		balls.Check(d)
		balls.Rest(d.Fixtures[1].Format, d.Fixtures[1].Board)
		if !reflect.DeepEqual(d, before) || d.Stock[:4][3] != 0 || d.Crates[:2][1] != (api.Crate{}) || sets[:2][1] != pair(0, 0) || d.Fixtures[:4][3].Day != 0 {
			t.Fatalf("the depot is %+v now", d)
		}
	}
}
