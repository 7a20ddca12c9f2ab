package draws_test

import (
	"math"
	"slices"
	"testing"

	"deuce/api"
	"deuce/draws"
)

// invalidPlans is plans of which just one thing is not valid.
func invalidPlans() map[string]api.Plan {
	change := func(do func(p *api.Plan)) api.Plan { return with(four(), do) }
	return map[string]api.Plan{
		"nothing of a plan":        {},
		"size 2":                   change(func(p *api.Plan) { p.Size, p.Persons = 2, p.Persons[:2] }),
		"size 3":                   change(func(p *api.Plan) { p.Size = 3 }),
		"size 5":                   change(func(p *api.Plan) { p.Size = 5 }),
		"size 6":                   change(func(p *api.Plan) { p.Size = 6 }),
		"size 16":                  with(plain(8, 1, 8), func(p *api.Plan) { p.Size = 16 }),
		"a negative size":          change(func(p *api.Plan) { p.Size = -4 }),
		"nobody":                   change(func(p *api.Plan) { p.Persons, p.Seeds = nil, 0 }),
		"one person":               change(func(p *api.Plan) { p.Persons = p.Persons[:1] }),
		"too many byes":            plain(8, 0, 3),
		"far too many byes":        plain(8, 2, 2),
		"too many persons":         plain(4, 0, 5),
		"too many persons of 8":    plain(8, 0, 9),
		"seeds below":              plain(4, -1, 4),
		"seeds above":              plain(4, 3, 4),
		"seeds above of 8":         plain(8, 5, 8),
		"more seeds than persons":  plain(8, 6, 5),
		"player below":             change(func(p *api.Plan) { p.Persons[2].Player = -1 }),
		"player above":             change(func(p *api.Plan) { p.Persons[2].Player = 1000 }),
		"a player twice":           change(func(p *api.Plan) { p.Persons[2].Player = 10 }),
		"two who are no seeds":     change(func(p *api.Plan) { p.Persons[2].Player = 20 }),
		"nation below":             change(func(p *api.Plan) { p.Persons[0].Nation = -1 }),
		"nation above":             change(func(p *api.Plan) { p.Persons[0].Nation = 10 }),
		"a seed from qualifying":   change(func(p *api.Plan) { p.Persons[0].Qualified = true }),
		"the last seed so":         change(func(p *api.Plan) { p.Seeds, p.Persons[1].Qualified = 2, true }),
		"the last seed of 8 so":    with(eight(), func(p *api.Plan) { p.Persons[3].Qualified = true }),
		"too many lots":            change(func(p *api.Plan) { p.Lots = make([]int, 11) }),
		"lot below":                change(func(p *api.Plan) { p.Lots[1] = -1 }),
		"lot above":                change(func(p *api.Plan) { p.Lots[0] = 1000000 }),
		"all lots, the last above": change(func(p *api.Plan) { p.Lots = append(make([]int, 9), 1000000) }),
	}
}

// invalidSheets is sheets of P that are not valid.
func invalidSheets() map[string][]int {
	return map[string][]int{
		"none":                nil,
		"empty":               {},
		"too short":           {10, -1, 20},
		"too long":            {10, -1, 20, 30, -1},
		"twice as long":       {10, -1, 20, 30, -1, -1, -1, -1},
		"a player twice":      {10, 20, 20, 30},
		"a player twice, far": {20, -1, -1, 20},
		"nobody's player":     {10, -1, 20, 40},
		"a person's index":    {0, -1, 1, 2},
		"unknown":             {10, -2, 20, 30},
		"below":               {10, math.MinInt, 20, 30},
		"above":               {10, math.MaxInt, 20, 30},
	}
}

// checker notes what a function of the table answers besides an error.
type checker func(function string, zero bool, e api.Errno)

// planErrors calls a checker with what the functions without sheets answer.
func planErrors(check checker, p api.Plan, n, player int, gone []int) {
	check("Check", true, draws.Check(p))
	count, e := draws.Count(p)
	check("Count", count == 0, e)
	sheet, e := draws.Draw(p)
	check("Draw", len(sheet) == 0, e)
	sheet, e = draws.Pick(p, n)
	check("Pick", len(sheet) == 0, e)
	sheets, e := draws.Facing(p, player)
	check("Facing", len(sheets) == 0, e)
	less, e := draws.Without(p, gone)
	check("Without", same(less, api.Plan{}), e)
}

// sheetErrors calls a checker with what the functions with sheets answer.
func sheetErrors(check checker, p api.Plan, sheet, gone, lucky []int) {
	obeys, e := draws.Obeys(p, sheet)
	check("Obeys", !obeys, e)
	breaks, e := draws.Breaks(p, sheet)
	check("Breaks", len(breaks) == 0, e)
	n, e := draws.Index(p, sheet)
	check("Index", n == 0, e)
	after, e := draws.Replace(p, sheet, gone, lucky)
	check("Replace", len(after) == 0, e)
}

// want returns a checker that asks for one error, and for nothing else with it.
func want(t *testing.T, name string, wanted api.Errno) checker {
	return func(function string, zero bool, e api.Errno) {
		t.Helper()
		if !zero || e != wanted {
			t.Errorf("%s: %s: zero %v, %d instead of %d", name, function, zero, e, wanted)
		}
	}
}

// P1, P6.1: TestInvalid: the error of a plan comes first, then that of a sheet, then that of the other arguments.
func TestInvalid(t *testing.T) {
	for name, p := range invalidPlans() {
		check := want(t, name, api.ErrPlan)
		planErrors(check, p, 0, 10, nil)
		planErrors(check, p, -1, -1, []int{99})
		sheetErrors(check, p, []int{10, -1, 20, 30}, nil, nil)
		for _, sheet := range invalidSheets() {
			sheetErrors(check, p, sheet, []int{99}, []int{-1})
		}
	}
	for name, sheet := range invalidSheets() {
		check := want(t, name, api.ErrSheet)
		sheetErrors(check, four(), sheet, nil, nil)
		sheetErrors(check, four(), sheet, []int{99}, []int{-1, -1})
	}
}

// P6.1: TestValid: plans at the limits.
func TestValid(t *testing.T) {
	for name, p := range map[string]api.Plan{
		"P": four(), "R": open(), "Q": eight(),
		"the fewest of 4":       plain(4, 0, 2),
		"the fewest of 4, all":  plain(4, 2, 2),
		"the most of 4":         plain(4, 2, 4),
		"the fewest of 8":       plain(8, 0, 4),
		"the fewest of 8, all":  plain(8, 4, 4),
		"the most of 8":         plain(8, 4, 8),
		"players at the limits": {Size: 4, Persons: []api.Person{{Player: 999, Nation: 9}, {Player: 0}}},
		"all from qualifying":   {Size: 4, Persons: []api.Person{{Player: 1, Qualified: true}, {Player: 2, Qualified: true}}},
		"behind the seeds":      with(four(), func(p *api.Plan) { p.Persons[1].Qualified = true }),
		"lots at the limits":    with(four(), func(p *api.Plan) { p.Lots = slices.Repeat([]int{0, 999999}, 5) }),
		"no lots":               with(four(), func(p *api.Plan) { p.Lots = nil }),
		"one nation":            with(plain(8, 4, 8), func(p *api.Plan) { p.Persons[0].Nation, p.Persons[7].Nation = 9, 9 }),
	} {
		if e := draws.Check(p); e != api.OK {
			t.Errorf("%s: Check = %d", name, e)
		}
		if countOf(t, p) < 0 {
			t.Errorf("%s: Count is negative", name)
		}
	}
}

// P6.2, P6.3, P6.7: TestMissing: a sheet without some persons is one, but does not obey.
func TestMissing(t *testing.T) {
	for _, sheet := range [][]int{{-1, -1, -1, -1}, {10, -1, -1, 20}, {10, -1, 30, -1}, {-1, 20, -1, 30}} {
		if is, e := draws.Obeys(four(), sheet); is || e != api.OK {
			t.Errorf("%v: Obeys = %v, %d", sheet, is, e)
		}
		if l, e := draws.Breaks(four(), sheet); len(l) > 0 || e != api.ErrArg {
			t.Errorf("%v: Breaks = %v, %d", sheet, l, e)
		}
		if n, e := draws.Index(four(), sheet); n != 0 || e != api.ErrNone {
			t.Errorf("%v: Index = %d, %d", sheet, n, e)
		}
		if l, e := draws.Replace(four(), sheet, nil, nil); !slices.Equal(l, sheet) || e != api.OK {
			t.Errorf("%v: Replace = %v, %d", sheet, l, e)
		}
	}
}

// P1: TestExtremes: each number can be anything.
func TestExtremes(t *testing.T) {
	sheet := []int{10, -1, 20, 30}
	for _, n := range []int{math.MinInt, math.MinInt + 1, -1 << 32, 1 << 32, 1<<32 + 4, 1 << 62, math.MaxInt} {
		for i, change := range []func(p *api.Plan){
			func(p *api.Plan) { p.Size = n },
			func(p *api.Plan) { p.Seeds = n },
			func(p *api.Plan) { p.Persons[1].Player = n },
			func(p *api.Plan) { p.Persons[1].Nation = n },
			func(p *api.Plan) { p.Lots[1] = n },
			func(p *api.Plan) { p.Size, p.Seeds, p.Persons, p.Lots = n, n, nil, nil },
		} {
			p := with(four(), change)
			check := want(t, "plan", api.ErrPlan)
			planErrors(check, p, n, n, []int{n})
			sheetErrors(check, p, []int{n, n, n, n}, []int{n}, []int{n})
			if t.Failed() {
				t.Fatalf("%d, %d", n, i)
			}
		}
		check := want(t, "arguments", api.ErrArg)
		l, e := draws.Pick(four(), n)
		check("Pick", len(l) == 0, e)
		l, e = draws.Facing(four(), n)
		check("Facing", len(l) == 0, e)
		p, e := draws.Without(four(), []int{10, n})
		check("Without", same(p, api.Plan{}), e)
		l, e = draws.Replace(four(), sheet, []int{10, n}, nil)
		check("Replace", len(l) == 0, e)
		l, e = draws.Replace(four(), sheet, []int{10}, []int{n})
		check("Replace by such a one", len(l) == 0, e)
	}
	many := slices.Repeat([]int{20}, 100000)
	if p, e := draws.Without(four(), many); len(p.Persons) != 2 || e != api.OK {
		t.Errorf("Without = %v, %d", p, e)
	}
	if l, e := draws.Replace(four(), sheet, many, []int{7}); !slices.Equal(l, []int{10, -1, 7, 30}) || e != api.OK {
		t.Errorf("Replace = %v, %d", l, e)
	}
}

// R3: TestEmpty: an empty slice is the same as none.
func TestEmpty(t *testing.T) {
	for i, l := range [][]int{nil, {}} {
		p := with(open(), func(p *api.Plan) { p.Lots = l })
		if d := draw(p); !d.equal(drawn{[]int{1, 3, 2, 4}, api.OK}) {
			t.Errorf("%d: Draw = %v", i, d)
		}
		if q, e := draws.Without(p, l); !same(p, q) || e != api.OK {
			t.Errorf("%d: Without = %v, %d", i, q, e)
		}
		sheet := []int{1, 3, 2, 4}
		if s, e := draws.Replace(p, sheet, l, l); !slices.Equal(s, sheet) || e != api.OK {
			t.Errorf("%d: Replace = %v, %d", i, s, e)
		}
		if s, e := draws.Replace(p, sheet, []int{2}, l); !slices.Equal(s, []int{1, 3, -1, 4}) || e != api.OK {
			t.Errorf("%d: Replace = %v, %d", i, s, e)
		}
		p.Persons = []api.Person{}
		if e := draws.Check(p); e != api.ErrPlan {
			t.Errorf("%d: Check = %d without persons", i, e)
		}
	}
}

// behind returns a list with more memory behind it, in which nothing may be written.
func behind[T any](l []T) []T { return append(make([]T, 0, len(l)+9), l...) }

// R4: TestMemory: no argument is changed, and no result shares memory with one.
func TestMemory(t *testing.T) {
	p := four()
	p.Persons, p.Lots = behind(p.Persons), behind(p.Lots)
	sheet, gone, lucky := behind([]int{10, -1, 30, 20}), behind([]int{30, 20, 30}), behind([]int{7, 5})
	spare := func() bool {
		unused := func(n int) bool { return n != 0 }
		persons := slices.ContainsFunc(p.Persons[3:cap(p.Persons)], func(x api.Person) bool { return x != api.Person{} })
		lists := slices.ContainsFunc(slices.Concat(p.Lots[2:cap(p.Lots)], sheet[4:cap(sheet)], gone[3:cap(gone)], lucky[2:cap(lucky)]), unused)
		return !persons && !lists
	}
	ignore := func(string, bool, api.Errno) {}
	planErrors(ignore, p, 1, 20, []int{20})
	sheetErrors(ignore, p, sheet, gone, lucky)
	if !same(p, four()) || !slices.Equal(sheet, []int{10, -1, 30, 20}) || !slices.Equal(gone, []int{30, 20, 30}) || !slices.Equal(lucky, []int{7, 5}) || !spare() {
		t.Errorf("the arguments are %v, %v, %v, %v now", p, sheet, gone, lucky)
	}
	whole, _ := draws.Without(p, nil)
	whole.Persons[0].Player, whole.Lots[0] = 99, 99
	less, _ := draws.Without(p, []int{20})
	less.Persons[0].Player, less.Lots[0] = 98, 98
	for _, players := range [][]int{nil, {20}} {
		after, _ := draws.Replace(p, sheet, players, lucky)
		after[0], after[2] = 97, 97
	}
	drawn, _ := draws.Draw(p)
	drawn[0] = 96
	if !same(p, four()) || !slices.Equal(sheet, []int{10, -1, 30, 20}) || !slices.Equal(lucky, []int{7, 5}) {
		t.Errorf("the arguments are %v, %v, %v behind changed results", p, sheet, lucky)
	}
	if d := draw(p); !d.equal(draw(four())) {
		t.Errorf("Draw = %v behind a changed one", d)
	}
}
