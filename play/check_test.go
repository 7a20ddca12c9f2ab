package play_test

import (
	"maps"
	"math"
	"reflect"
	"slices"
	"testing"

	"deuce/api"
	"deuce/play"
)

// checker notes what a function of the table answers besides an error.
type checker func(function string, zero bool, e api.Errno)

// want returns a checker that asks for one error, and for nothing else with it.
func want(t *testing.T, name string, wanted api.Errno) checker {
	return func(function string, zero bool, e api.Errno) {
		t.Helper()
		if !zero || e != wanted {
			t.Errorf("%s: %s: zero %v, %d instead of %d", name, function, zero, e, wanted)
		}
	}
}

// everything calls a checker with what all functions of a program answer.
func everything(check checker, p api.Program, order, old []api.Seat) {
	check("Check", true, play.Check(p))
	n, e := play.Days(p)
	check("Days", n == 0, e)
	l, e := play.Best(p)
	check("Best", len(l) == 0, e)
	n, e = play.Stuck(p)
	check("Stuck", n == 0, e)
	orders(check, p, order)
	olds(check, p, old)
}

// orders calls a checker with what the functions of an order of play answer.
func orders(check checker, p api.Program, order []api.Seat) {
	begins, ends, e := play.Times(p, order)
	check("Times", len(begins) == 0 && len(ends) == 0, e)
	fits, n, e := play.Fits(p, order)
	check("Fits", !fits && n == 0, e)
}

// olds calls a checker with what the functions of old seats answer.
func olds(check checker, p api.Program, old []api.Seat) {
	n, e := play.Fewest(p, old)
	check("Fewest", n == 0, e)
	l, e := play.Repair(p, old)
	check("Repair", len(l) == 0, e)
}

// invalidPrograms is changes by which the example is not valid any more.
func invalidPrograms() map[string]func(p *api.Program) {
	return map[string]func(p *api.Program){
		"nothing":               func(p *api.Program) { *p = api.Program{} },
		"no days":               func(p *api.Program) { p.Days = nil },
		"four days":             func(p *api.Program) { p.Days = slices.Repeat(p.Days, 2) },
		"no courts":             func(p *api.Program) { p.Days = [][]api.Span{nil, {}} },
		"four courts":           func(p *api.Program) { p.Days = [][]api.Span{make([]api.Span, 4)} },
		"fewer courts later":    func(p *api.Program) { p.Days[1] = p.Days[1][:1] },
		"no courts later":       func(p *api.Program) { p.Days[1] = nil },
		"more courts later":     func(p *api.Program) { p.Days[1] = append(p.Days[1], span(1, 2)) },
		"opening below":         func(p *api.Program) { p.Days[1][0].Low = -1 },
		"closing below opening": func(p *api.Program) { p.Days[0][1].High = 599 },
		"closing above":         func(p *api.Program) { p.Days[1][1].High = 1441 },
		"opening above":         func(p *api.Program) { p.Days[1][1] = span(1441, 1441) },
		"rest below":            func(p *api.Program) { p.Rest = -1 },
		"rest above":            func(p *api.Program) { p.Rest = 601 },
		"seven jobs":            func(p *api.Program) { p.Jobs = slices.Repeat(p.Jobs[:1], 7) },
		"no minutes":            func(p *api.Program) { p.Jobs[1].Length = span(0, 5) },
		"no Length":             func(p *api.Program) { p.Jobs[1].Length = span(0, 0) },
		"Length below":          func(p *api.Program) { p.Jobs[1].Length = span(-5, 5) },
		"Length ends early":     func(p *api.Program) { p.Jobs[2].Length = span(5, 4) },
		"Length above":          func(p *api.Program) { p.Jobs[0].Length = span(5, 601) },
		"Due below":             func(p *api.Program) { p.Jobs[0].Due = -1 },
		"Due above":             func(p *api.Program) { p.Jobs[2].Due = 3 },
		"Earliest below":        func(p *api.Program) { p.Jobs[2].Earliest = -1 },
		"Earliest above":        func(p *api.Program) { p.Jobs[0].Earliest = 1441 },
		"After itself":          func(p *api.Program) { p.Jobs[1].After = []int{1} },
		"After itself, 0":       func(p *api.Program) { p.Jobs[0].After = []int{0} },
		"After later":           func(p *api.Program) { p.Jobs[0].After = []int{2} },
		"After nobody":          func(p *api.Program) { p.Jobs[2].After = []int{-1, 0} },
		"After too high":        func(p *api.Program) { p.Jobs[2].After = []int{0, 1, 3} },
		"After twice":           func(p *api.Program) { p.Jobs[2].After = []int{0, 0} },
		"After descending":      func(p *api.Program) { p.Jobs[2].After = []int{1, 0} },
		"With itself":           func(p *api.Program) { p.Jobs[1].With = []int{1} },
		"With itself and more":  func(p *api.Program) { p.Jobs[1].With = []int{0, 1, 2} },
		"With nobody":           func(p *api.Program) { p.Jobs[1].With = []int{-1} },
		"With too high":         func(p *api.Program) { p.Jobs[1].With = []int{0, 3} },
		"With twice":            func(p *api.Program) { p.Jobs[1].With = []int{2, 2} },
		"With descending":       func(p *api.Program) { p.Jobs[1].With = []int{2, 0} },
		"With very many":        func(p *api.Program) { p.Jobs[1].With = slices.Repeat([]int{0, 2}, 10000) },
	}
}

// P8.1: TestValid: programs at the limits.
func TestValid(t *testing.T) {
	for name, change := range map[string]func(p *api.Program){
		"the example":         func(p *api.Program) {},
		"no jobs":             func(p *api.Program) { p.Jobs = nil },
		"empty jobs":          func(p *api.Program) { p.Jobs = []api.Job{} },
		"one day":             func(p *api.Program) { p.Days = p.Days[:1] },
		"three days":          func(p *api.Program) { p.Days = append(p.Days, p.Days[0]) },
		"one court":           func(p *api.Program) { p.Days = [][]api.Span{{span(0, 1440)}} },
		"three courts":        func(p *api.Program) { p.Days = [][]api.Span{{span(0, 0), span(1440, 1440), span(0, 1440)}} },
		"most rest":           func(p *api.Program) { p.Rest = 600 },
		"no rest":             func(p *api.Program) { p.Rest = 0 },
		"six jobs":            func(p *api.Program) { p.Jobs = slices.Repeat(p.Jobs[:1], 6) },
		"Lengths":             func(p *api.Program) { p.Jobs[0].Length, p.Jobs[1].Length = span(1, 600), span(600, 600) },
		"Due behind all":      func(p *api.Program) { p.Jobs[0].Due, p.Jobs[1].Due = 2, 0 },
		"Earliest":            func(p *api.Program) { p.Jobs[0].Earliest = 1440 },
		"With all":            func(p *api.Program) { p.Jobs[0].With, p.Jobs[1].With = []int{1, 2}, []int{0, 2} },
		"With those of After": func(p *api.Program) { p.Jobs[2].With = []int{0, 1} },
		"After the last":      func(p *api.Program) { p.Jobs[2].After, p.Jobs[1].After = []int{1}, []int{0} },
	} {
		if e := play.Check(with(change)); e != api.OK {
			t.Errorf("%s: Check: %d", name, e)
		}
	}
}

// badOrders is seats that are no order of play of the example.
func badOrders() map[string][]api.Seat {
	return map[string][]api.Seat{
		"no seats":            nil,
		"too few":             order()[:2],
		"too many":            append(order(), seat(2, 1, 0)),
		"a seat twice":        append(order(), seat(2, 0, 0)),
		"a job twice":         {seat(0, 0, 0), seat(0, 0, 1), seat(1, 0, 0)},
		"a seat for another":  {seat(0, 0, 0), seat(0, 0, 0), seat(1, 0, 0)},
		"no such job":         {seat(0, 0, 0), seat(1, 0, 1), seat(3, 0, 0)},
		"a job below":         {seat(0, 0, 0), seat(1, 0, 1), seat(-1, 0, 0)},
		"a day below":         {seat(0, -1, 0), seat(1, 0, 1), seat(2, 0, 0)},
		"a day above":         {seat(0, 0, 0), seat(1, 0, 1), seat(2, 2, 0)},
		"a court below":       {seat(0, 0, 0), seat(1, 0, -1), seat(2, 0, 0)},
		"a court above":       {seat(0, 0, 0), seat(1, 0, 2), seat(2, 0, 0)},
		"days back":           {seat(0, 1, 0), seat(1, 0, 1), seat(2, 1, 0)},
		"days back, far":      {seat(0, 1, 0), seat(1, 1, 0), seat(2, 0, 0)},
		"before its After":    {seat(2, 0, 0), seat(0, 0, 0), seat(1, 0, 1)},
		"between its Afters":  {seat(0, 0, 0), seat(2, 0, 0), seat(1, 0, 1)},
		"between, other days": {seat(1, 0, 0), seat(2, 1, 0), seat(0, 1, 0)},
	}
}

// badOlds is seats that cannot be old ones of the example.
func badOlds() map[string][]api.Seat {
	out := maps.Clone(badOrders())
	for _, name := range []string{"a day above", "a court above", "days back", "days back, far", "before its After", "between its Afters", "between, other days"} {
		delete(out, name)
	}
	out["a day above"] = []api.Seat{seat(0, 0, 0), seat(1, 0, 1), seat(2, 3, 0)}
	out["a court above"] = []api.Seat{seat(0, 0, 0), seat(1, 0, 3), seat(2, 0, 0)}
	return out
}

// P1, P8.1 to P8.8: TestInvalid: the error of the program comes first, then that of seats, then that no order fits.
func TestInvalid(t *testing.T) {
	for name, change := range invalidPrograms() {
		check := want(t, name, api.ErrProgram)
		everything(check, with(change), order(), order())
		everything(check, with(change), nil, nil)
		for _, l := range badOrders() {
			everything(check, with(change), l, l)
		}
	}
	closed := with(func(p *api.Program) { p.Days = [][]api.Span{{span(600, 600), span(0, 10)}, {span(5, 50), span(1, 1)}} })
	for name, l := range badOrders() {
		orders(want(t, name, api.ErrOrder), example(), l)
		orders(want(t, name, api.ErrOrder), closed, l)
	}
	for name, l := range badOlds() {
		olds(want(t, name, api.ErrOrder), example(), l)
		olds(want(t, name, api.ErrOrder), closed, l)
	}
	late := with(func(p *api.Program) { p.Jobs[1].Due = 0 })
	orders(want(t, "behind its Due", api.ErrOrder), late, []api.Seat{seat(0, 0, 0), seat(1, 1, 1), seat(2, 1, 0)})
	orders(want(t, "a day that is not there", api.ErrOrder), with(func(p *api.Program) { p.Days = p.Days[:1] }), []api.Seat{seat(0, 0, 0), seat(1, 0, 1), seat(2, 1, 0)})
	olds(want(t, "none fits", api.ErrNone), closed, order())
	check := want(t, "none fits", api.ErrNone)
	n, e := play.Days(closed)
	check("Days", n == 0, e)
	l, e := play.Best(closed)
	check("Best", len(l) == 0, e)
}

// P1: TestExtremes: each number can be anything.
func TestExtremes(t *testing.T) {
	for _, n := range []int{math.MinInt, math.MinInt + 1, -1 << 32, -2, 1441, 1 << 32, 1<<32 + 1, 1 << 62, math.MaxInt} {
		for _, change := range []func(p *api.Program){
			func(p *api.Program) { p.Days[0][0].Low = n },
			func(p *api.Program) { p.Days[0][0].High = n },
			func(p *api.Program) { p.Days[1][1] = span(n, n) },
			func(p *api.Program) { p.Rest = n },
			func(p *api.Program) { p.Jobs[0].Length.Low = n },
			func(p *api.Program) { p.Jobs[0].Length.High = n },
			func(p *api.Program) { p.Jobs[0].Length = span(n, n) },
			func(p *api.Program) { p.Jobs[0].Length = span(math.MinInt, n) },
			func(p *api.Program) { p.Jobs[0].Due = n },
			func(p *api.Program) { p.Jobs[0].Earliest = n },
			func(p *api.Program) { p.Jobs[1].After = []int{n} },
			func(p *api.Program) { p.Jobs[1].With = []int{n} },
			func(p *api.Program) { p.Jobs[1].With = []int{0, n} },
		} {
			everything(want(t, "program", api.ErrProgram), with(change), []api.Seat{seat(n, n, n)}, []api.Seat{seat(n, n, n)})
		}
		for i := range 3 {
			for _, s := range []api.Seat{seat(n, 0, 0), seat(i, n, 0), seat(i, 0, n), seat(n, n, n)} {
				l := order()
				l[i] = s
				orders(want(t, "order", api.ErrOrder), example(), l)
				olds(want(t, "old", api.ErrOrder), example(), l)
			}
		}
	}
}

// R3: TestEmpty: an empty slice is the same as none.
func TestEmpty(t *testing.T) {
	p := with(func(p *api.Program) { p.Jobs = []api.Job{} })
	for _, l := range [][]api.Seat{nil, {}} {
		begins, ends, e := play.Times(p, l)
		if len(begins) != 0 || len(ends) != 0 || e != api.OK {
			t.Errorf("Times = %v, %v, %d", begins, ends, e)
		}
		if fits, n, e := play.Fits(p, l); !fits || n != -1 || e != api.OK {
			t.Errorf("Fits = %v, %d, %d", fits, n, e)
		}
		if n, e := play.Fewest(p, l); n != 0 || e != api.OK {
			t.Errorf("Fewest = %d, %d", n, e)
		}
		if l, e := play.Repair(p, l); len(l) != 0 || e != api.OK {
			t.Errorf("Repair = %v, %d", l, e)
		}
	}
	p = with(func(p *api.Program) { p.Jobs[0].After, p.Jobs[0].With, p.Jobs[1].With = []int{}, []int{}, []int{} })
	if n, e := play.Fewest(p, order()); n != 0 || e != api.OK {
		t.Errorf("Fewest = %d, %d", n, e)
	}
}

// R4: TestMemory: no argument is changed, and no result shares memory with one.
func TestMemory(t *testing.T) {
	p, old := short(), append(make([]api.Seat, 0, 9), seat(2, 0, 0), seat(0, 0, 0), seat(1, 0, 1))
	p.Days = append(make([][]api.Span, 0, 5), p.Days...)
	p.Jobs = append(make([]api.Job, 0, 9), p.Jobs...)
	p.Jobs[2].After = append(make([]int, 0, 9), p.Jobs[2].After...)
	before, seats, first := copied(p), slices.Clone(old[:9]), order()
	for range 2 {
		begins, ends, e := play.Times(p, first)
		if e != api.OK || begins[2] != span(690, 750) || ends[2] != span(780, 900) {
			t.Errorf("Times = %v, %v, %d", begins, ends, e)
		}
		play.Fits(p, first)
		play.Days(p)
		play.Stuck(p)
		play.Fewest(p, old)
		best, e := play.Best(p)
		if e != api.OK {
			t.Fatalf("Best: %d", e)
		}
		checkFits(t, "Best", before, best)
		repaired, e := play.Repair(p, old)
		if e != api.OK || movesOf(repaired, old) != 1 {
			t.Fatalf("Repair = %v, %d", repaired, e)
		}
		checkFits(t, "Repair", before, repaired)
		begins[0], ends[0], best[0], repaired[0] = span(1, 2), span(3, 4), seat(7, 8, 9), seat(7, 8, 9)
		if !reflect.DeepEqual(p, before) || !slices.Equal(old[:9], seats) || !slices.Equal(first, order()) {
			t.Fatalf("the arguments are %v, %v, %v now", p, old[:9], first)
		}
	}
}
