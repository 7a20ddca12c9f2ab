package draws_test

import (
	"math/rand/v2"
	"slices"
	"testing"

	"deuce/api"
	"deuce/draws"
)

// P6.2, P6.3: TestRules: each rule alone, for sheets in which each person has a slot.
func TestRules(t *testing.T) {
	qualified := with(open(), func(p *api.Plan) { p.Persons[2].Qualified, p.Persons[3].Qualified = true, true })
	full, three := plain(8, 4, 8), plain(8, 3, 7)
	few := plain(8, 1, 5)
	for name, x := range map[string]struct {
		p      api.Plan
		sheet  []int
		obeys  bool
		breaks []int
	}{
		"P":                            {four(), []int{10, -1, 30, 20}, true, nil},
		"P, the other way":             {four(), []int{10, -1, 20, 30}, true, nil},
		"the seed 1 beside the slot 0": {four(), []int{-1, 10, 30, 20}, false, nil},
		"the seed 1 in the last slot":  {four(), []int{20, 30, -1, 10}, false, nil},
		"a bye faces another one":      {four(), []int{10, 20, 30, -1}, false, nil},
		"one nation":                   {four(), []int{10, 30, 20, -1}, false, []int{0}},
		"one nation, the last match":   {open(), []int{3, 4, 2, 1}, false, []int{1}},
		"no nation and one":            {open(), []int{4, 1, 3, 2}, true, nil},
		"no nation twice":              {plain(4, 0, 4), []int{1, 2, 3, 4}, true, nil},
		"qualifiers apart":             {qualified, []int{1, 3, 4, 2}, true, nil},
		"qualifiers, and a nation":     {qualified, []int{1, 2, 3, 4}, false, []int{0, 1}},
		"two byes":                     {plain(8, 0, 6), []int{1, 2, -1, -1, 3, 4, 5, 6}, false, []int{1}},
		"twice two byes":               {plain(8, 0, 4), []int{-1, -1, 1, 2, 3, 4, -1, -1}, false, []int{0, 3}},
		"the seed 2 in the last slot":  {full, []int{1, 5, 3, 6, 7, 4, 8, 2}, true, nil},
		"the seeds 3 and 4 exchanged":  {full, []int{1, 5, 4, 6, 7, 3, 8, 2}, true, nil},
		"the seed 2 beside its slot":   {full, []int{1, 5, 3, 6, 7, 4, 2, 8}, false, nil},
		"the seeds 1 and 2 exchanged":  {full, []int{2, 5, 3, 6, 7, 4, 8, 1}, false, nil},
		"the seed 3 beside its slot":   {full, []int{1, 5, 6, 3, 7, 4, 8, 2}, false, nil},
		"the seed 4 beside its slot":   {full, []int{1, 5, 3, 6, 4, 7, 8, 2}, false, nil},
		"the seeds 3 and 4 meet":       {full, []int{1, 5, 3, 4, 7, 6, 8, 2}, false, nil},
		"the seeds 1 and 4 meet":       {full, []int{1, 4, 3, 5, 7, 6, 8, 2}, false, nil},
		"the seed 3 without a seed 4":  {three, []int{1, -1, 3, 4, 5, 6, 7, 2}, true, nil},
		"the same in the other slot":   {three, []int{1, -1, 4, 5, 6, 3, 7, 2}, true, nil},
		"the same beside it":           {three, []int{1, -1, 4, 3, 5, 6, 7, 2}, false, nil},
		"the bye of the seed 2":        {three, []int{1, 4, 3, 5, 6, 7, -1, 2}, false, nil},
		"the bye of nobody's seed":     {three, []int{1, 4, 3, 5, 6, -1, 7, 2}, false, nil},
		"more byes than seeds":         {few, []int{1, -1, -1, 2, 3, 4, 5, -1}, true, nil},
		"the same, not for the seed":   {few, []int{1, 2, -1, 3, 4, -1, 5, -1}, false, nil},
		"Q":                            {eight(), []int{1, -1, 3, 5, 6, 4, -1, 2}, true, nil},
		"Q, a bye for the seed 3":      {eight(), []int{1, 5, 3, -1, 6, 4, -1, 2}, false, nil},
	} {
		is, e := draws.Obeys(x.p, x.sheet)
		if is != x.obeys || e != api.OK {
			t.Errorf("%s: Obeys = %v, %d", name, is, e)
		}
		l, e := draws.Breaks(x.p, x.sheet)
		if !slices.Equal(l, x.breaks) || e != api.OK {
			t.Errorf("%s: Breaks = %v, %d", name, l, e)
		}
	}
}

// checkSheet compares what is said of a sheet with the chapter's words.
func checkSheet(t *testing.T, p api.Plan, sheet []int) {
	t.Helper()
	full := !slices.ContainsFunc(players(p), func(n int) bool { return !slices.Contains(sheet, n) })
	is, e := draws.Obeys(p, sheet)
	if is != obeysBy(p, sheet) || e != api.OK {
		t.Errorf("%v: Obeys = %v, %d", sheet, is, e)
	}
	breaks, wanted := breaksBy(p, sheet), api.OK
	if !full {
		breaks, wanted = nil, api.ErrArg
	}
	if l, e := draws.Breaks(p, sheet); !slices.Equal(l, breaks) || e != wanted {
		t.Errorf("%v: Breaks = %v, %d", sheet, l, e)
	}
}

// P6.2, P6.3: TestByWords: all sheets with all persons, and some of them without some.
func TestByWords(t *testing.T) {
	obey := 0
	eachPlan(t, 300, func(t *testing.T, r *rand.Rand, p api.Plan) {
		sheets := sheetsBy(p)
		for range min(100, len(sheets)) {
			sheet := slices.Clone(sheets[r.IntN(len(sheets))])
			checkSheet(t, p, sheet)
			for range 1 + r.IntN(2) {
				sheet[r.IntN(p.Size)] = -1
			}
			checkSheet(t, p, sheet)
		}
		all := drawsBy(p)
		for _, sheet := range all[:min(50, len(all))] {
			checkSheet(t, p, sheet)
			obey++
		}
	})
	if obey < 1000 {
		t.Errorf("only %d draws obey", obey)
	}
}
