package draws_test

import (
	"math/rand/v2"
	"slices"
	"testing"

	"deuce/api"
	"deuce/draws"
)

// P6.9: TestWithout: who is left, in the same order, and what else the plan has.
func TestWithout(t *testing.T) {
	late := with(eight(), func(p *api.Plan) { p.Persons[4].Qualified, p.Persons[5].Nation = true, 7 })
	for name, x := range map[string]struct {
		p    api.Plan
		gone []int
		left []int
		e    api.Errno
	}{
		"nobody":                         {eight(), nil, []int{1, 2, 3, 4, 5, 6}, api.OK},
		"a seed":                         {eight(), []int{2}, []int{1, 3, 4, 5, 6}, api.OK},
		"the last one":                   {eight(), []int{6}, []int{1, 2, 3, 4, 5}, api.OK},
		"one twice":                      {eight(), []int{2, 2}, []int{1, 3, 4, 5, 6}, api.OK},
		"as many as can":                 {eight(), []int{6, 1}, []int{2, 3, 4, 5}, api.OK},
		"as many as can, often":          {eight(), []int{6, 1, 1, 6, 1}, []int{2, 3, 4, 5}, api.OK},
		"one too many":                   {eight(), []int{1, 2, 3}, nil, api.ErrNone},
		"all":                            {eight(), []int{1, 2, 3, 4, 5, 6}, nil, api.ErrNone},
		"two are left of 4":              {four(), []int{20}, []int{10, 30}, api.OK},
		"one is left of 4":               {four(), []int{30, 20}, nil, api.ErrNone},
		"who is none":                    {eight(), []int{7}, nil, api.ErrArg},
		"Bye":                            {eight(), []int{-1}, nil, api.ErrArg},
		"who is none, and a person":      {eight(), []int{1, 0}, nil, api.ErrArg},
		"who is none, and too many":      {eight(), []int{1, 2, 3, 1000}, nil, api.ErrArg},
		"a qualifier would be seeded":    {late, []int{1}, nil, api.ErrNone},
		"a qualifier would, two quit":    {late, []int{3, 1}, nil, api.ErrNone},
		"the qualifier quits, too":       {late, []int{1, 5}, []int{2, 3, 4, 6}, api.OK},
		"the qualifier stays behind":     {late, []int{6}, []int{1, 2, 3, 4, 5}, api.OK},
		"lots and nations stay as given": {with(four(), func(p *api.Plan) { p.Lots = []int{1, 2, 3} }), []int{10}, []int{20, 30}, api.OK},
	} {
		p, e := draws.Without(x.p, x.gone)
		if e != x.e || !slices.Equal(players(p), x.left) {
			t.Errorf("%s: Without = %v, %d", name, p, e)
			continue
		}
		wanted := api.Plan{}
		if e == api.OK {
			wanted = copied(x.p)
			wanted.Persons = nil
			for _, player := range x.left {
				wanted.Persons = append(wanted.Persons, personBy(x.p, player))
			}
		}
		if !same(p, wanted) {
			t.Errorf("%s: Without = %v instead of %v", name, p, wanted)
		}
	}
	less, _ := draws.Without(eight(), []int{2})
	if n := countOf(t, less); n != 2 {
		t.Errorf("Count = %d", n)
	}
	if _, e := draws.Draw(less); e != api.OK {
		t.Errorf("Draw: %d", e)
	}
}

// P6.10: TestReplace: who has the slots then, and who may withdraw and come.
func TestReplace(t *testing.T) {
	sheet, short := []int{10, -1, 30, 20}, []int{10, -1, -1, 20}
	for name, x := range map[string]struct {
		sheet, gone, lucky, after []int
		e                         api.Errno
	}{
		"one too few":                 {sheet, []int{20, 30}, []int{7}, []int{10, -1, 7, -1}, api.OK},
		"one too many":                {sheet, []int{30, 20}, []int{7, 5, 6}, []int{10, -1, 7, 5}, api.OK},
		"in the order of slots":       {sheet, []int{20, 30, 10}, []int{3, 2, 1}, []int{3, -1, 2, 1}, api.OK},
		"one twice":                   {sheet, []int{30, 30}, []int{7, 5}, []int{10, -1, 7, 20}, api.OK},
		"nobody is left":              {sheet, []int{10}, nil, []int{-1, -1, 30, 20}, api.OK},
		"nobody at all":               {sheet, []int{10, 20, 30}, nil, []int{-1, -1, -1, -1}, api.OK},
		"nobody withdraws":            {sheet, nil, []int{7, 5}, sheet, api.OK},
		"a person without a slot":     {short, []int{20}, []int{30}, []int{10, -1, -1, 30}, api.OK},
		"lucky ones at the limits":    {sheet, []int{10, 20}, []int{999, 0}, []int{999, -1, 30, 0}, api.OK},
		"who has no slot":             {short, []int{30}, nil, nil, api.ErrArg},
		"Bye":                         {sheet, []int{-1}, nil, nil, api.ErrArg},
		"who is no person":            {sheet, []int{40}, nil, nil, api.ErrArg},
		"who is none, and a person":   {sheet, []int{20, 40}, nil, nil, api.ErrArg},
		"who withdraws comes":         {sheet, []int{20}, []int{20}, nil, api.ErrArg},
		"who is in the sheet comes":   {sheet, []int{20}, []int{10}, nil, api.ErrArg},
		"behind all who are needed":   {sheet, []int{20}, []int{7, 10}, nil, api.ErrArg},
		"one comes twice":             {sheet, []int{20}, []int{7, 7}, nil, api.ErrArg},
		"one comes twice, not needed": {sheet, nil, []int{7, 6, 7}, nil, api.ErrArg},
		"Bye comes":                   {sheet, []int{20}, []int{-1}, nil, api.ErrArg},
		"above":                       {sheet, []int{20}, []int{7, 1000}, nil, api.ErrArg},
		"below":                       {sheet, []int{20}, []int{7, -2}, nil, api.ErrArg},
		"above, and not needed":       {sheet, nil, []int{1000}, nil, api.ErrArg},
	} {
		if l, e := draws.Replace(four(), x.sheet, x.gone, x.lucky); e != x.e || !slices.Equal(l, x.after) {
			t.Errorf("%s: Replace = %v, %d", name, l, e)
		}
	}
	for i, x := range []struct{ gone, lucky []int }{{[]int{2}, []int{-1}}, {[]int{-1}, nil}} {
		if l, e := draws.Replace(open(), []int{1, 3, 2, 4}, x.gone, x.lucky); len(l) > 0 || e != api.ErrArg {
			t.Errorf("%d: Replace = %v, %d in a sheet without byes", i, l, e)
		}
	}
}

// randomSheet returns a sheet of a plan, that of any draw, or one without some persons.
func randomSheet(r *rand.Rand, p api.Plan) []int {
	sheet := players(p)
	for len(sheet) < p.Size {
		sheet = append(sheet, -1)
	}
	r.Shuffle(p.Size, func(i, j int) { sheet[i], sheet[j] = sheet[j], sheet[i] })
	for range r.IntN(3) {
		sheet[r.IntN(p.Size)] = -1
	}
	return sheet
}

// someOf returns some of a list without Bye, in any order.
func someOf(r *rand.Rand, l []int) []int {
	out := slices.DeleteFunc(slices.Clone(l), func(n int) bool { return n == -1 || r.IntN(2) == 0 })
	r.Shuffle(len(out), func(i, j int) { out[i], out[j] = out[j], out[i] })
	return out
}

// randomLucky returns up to so many players who are not in a sheet.
func randomLucky(r *rand.Rand, sheet []int, most int) []int {
	out := slices.DeleteFunc(r.Perm(api.MaxPlayer+1), func(n int) bool { return slices.Contains(sheet, n) })
	return out[:r.IntN(most+1)]
}

// mixed returns a list in another order, with some of its elements twice.
func mixed(r *rand.Rand, l []int) []int {
	out := slices.Clone(l)
	for range min(len(l), r.IntN(4)) {
		out = append(out, l[r.IntN(len(l))])
	}
	r.Shuffle(len(out), func(i, j int) { out[i], out[j] = out[j], out[i] })
	return out
}

// P6.10, P6.15, P6.16: TestReplaceByWords: slot by slot; neither the order in which players withdraw nor how often they are named matters.
func TestReplaceByWords(t *testing.T) {
	changed, left := 0, 0
	eachPlan(t, 1000, func(t *testing.T, r *rand.Rand, p api.Plan) {
		sheet := randomSheet(r, p)
		gone, lucky := someOf(r, sheet), randomLucky(r, sheet, 6)
		after, e := draws.Replace(p, sheet, gone, lucky)
		if len(after) != p.Size || e != api.OK {
			t.Fatalf("Replace of %v, %v, %v = %v, %d", sheet, gone, lucky, after, e)
		}
		n := 0
		for slot, player := range sheet {
			wanted := player
			if slices.Contains(gone, player) {
				wanted = -1
				if n < len(lucky) {
					wanted = lucky[n]
				}
				n++
			}
			if after[slot] != wanted {
				t.Errorf("Replace of %v, %v, %v = %v", sheet, gone, lucky, after)
			}
		}
		changed += min(n, len(lucky))
		left += max(0, n-len(lucky))
		if again, e := draws.Replace(p, sheet, mixed(r, gone), lucky); !slices.Equal(again, after) || e != api.OK {
			t.Errorf("Replace of %v, %v, %v = %v, %d in another order", sheet, gone, lucky, again, e)
		}
	})
	if changed < 500 || left < 100 {
		t.Errorf("only %d were replaced, and %d left", changed, left)
	}
}

// P6.9, P6.15: TestWithoutInParts: neither the order of players nor how often each is named matters, nor in how many parts they withdraw.
func TestWithoutInParts(t *testing.T) {
	parts, none := 0, 0
	eachPlan(t, 2000, func(t *testing.T, r *rand.Rand, p api.Plan) {
		gone := someOf(r, players(p))
		less, e := draws.Without(p, gone)
		if again, f := draws.Without(p, mixed(r, gone)); !same(less, again) || e != f {
			t.Errorf("Without %v = %v, %d, and %v, %d in another order", gone, less, e, again, f)
		}
		cut := r.IntN(len(gone) + 1)
		between, f := draws.Without(p, gone[:cut])
		if f != api.OK {
			none++
			return
		}
		parts++
		if then, f := draws.Without(between, gone[cut:]); !same(less, then) || e != f {
			t.Errorf("Without %v = %v, %d, and %v, %d in two parts", gone, less, e, then, f)
		}
	})
	if parts < 500 || none < 50 {
		t.Errorf("%d were in two parts, %d not valid in between", parts, none)
	}
}
