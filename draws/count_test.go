package draws_test

import (
	"math/rand/v2"
	"slices"
	"testing"

	"deuce/api"
	"deuce/draws"
)

// P6.4, P6.5: TestCount: how many draws obey, and which is that of the lots.
func TestCount(t *testing.T) {
	sisters := with(open(), func(p *api.Plan) { p.Persons[2].Nation, p.Persons[3].Nation = 1, 1 })
	lots := func(lots ...int) api.Plan { return with(open(), func(p *api.Plan) { p.Lots = lots }) }
	for name, x := range map[string]struct {
		p     api.Plan
		count int
		draw  []int
	}{
		"P":                              {four(), 2, []int{10, -1, 30, 20}},
		"R":                              {open(), 16, []int{1, 3, 2, 4}},
		"Q":                              {eight(), 4, []int{1, -1, 3, 5, 6, 4, -1, 2}},
		"just as many lots as draws":     {lots(16), 16, []int{1, 3, 2, 4}},
		"one less":                       {lots(7, 8), 16, []int{4, 2, 3, 1}},
		"one more":                       {lots(7, 8, 2), 16, []int{1, 3, 4, 2}},
		"lots above all":                 {lots(slices.Repeat([]int{999999}, 10)...), 16, []int{2, 4, 1, 3}},
		"two persons":                    {plain(4, 0, 2), 8, []int{-1, 1, -1, 2}},
		"two seeds":                      {plain(4, 2, 2), 1, []int{1, -1, -1, 2}},
		"four without seeds":             {plain(4, 0, 4), 24, []int{1, 2, 3, 4}},
		"four with two":                  {plain(4, 2, 4), 2, []int{1, 3, 4, 2}},
		"eight without seeds":            {plain(8, 0, 8), 40320, []int{1, 2, 3, 4, 5, 6, 7, 8}},
		"eight with four":                {plain(8, 4, 8), 48, []int{1, 5, 3, 6, 7, 4, 8, 2}},
		"eight with three":               {plain(8, 3, 8), 240, []int{1, 4, 3, 5, 6, 7, 8, 2}},
		"four of eight, all are seeds":   {plain(8, 4, 4), 2, []int{1, -1, 3, -1, -1, 4, -1, 2}},
		"four of eight, none is":         {plain(8, 0, 4), 384, []int{-1, 1, -1, 2, -1, 3, -1, 4}},
		"one nation only":                {sisters, 0, nil},
		"one nation only, but with byes": {with(sisters, func(p *api.Plan) { p.Persons = p.Persons[:2] }), 8, []int{-1, 1, -1, 2}},
	} {
		if n, e := draws.Count(x.p); n != x.count || e != api.OK {
			t.Errorf("%s: Count = %d, %d", name, n, e)
		}
		wanted := drawn{x.draw, api.OK}
		if x.count == 0 {
			wanted.e = api.ErrNone
		}
		if d := draw(x.p); !d.equal(wanted) {
			t.Errorf("%s: Draw = %v", name, d)
		}
	}
}

// P6.6, P6.7: TestPick: draws by their numbers, and numbers by their draws.
func TestPick(t *testing.T) {
	for n, sheet := range map[int][]int{
		0: {1, 3, 2, 4}, 1: {1, 3, 4, 2}, 2: {1, 4, 2, 3}, 3: {1, 4, 3, 2}, 4: {2, 3, 1, 4}, 8: {3, 1, 2, 4}, 15: {4, 2, 3, 1},
	} {
		if l, e := draws.Pick(open(), n); !slices.Equal(l, sheet) || e != api.OK {
			t.Errorf("Pick of %d = %v, %d", n, l, e)
		}
		if m, e := draws.Index(open(), sheet); m != n || e != api.OK {
			t.Errorf("Index of %v = %d, %d", sheet, m, e)
		}
	}
	for _, n := range []int{-1, -16, 16, 17} {
		if l, e := draws.Pick(open(), n); len(l) > 0 || e != api.ErrArg {
			t.Errorf("Pick of %d = %v, %d", n, l, e)
		}
	}
	for _, sheet := range [][]int{{1, 2, 3, 4}, {3, 4, 1, 2}, {1, 3, -1, 4}} {
		if n, e := draws.Index(open(), sheet); n != 0 || e != api.ErrNone {
			t.Errorf("Index of %v = %d, %d", sheet, n, e)
		}
	}
	none := with(plain(4, 0, 4), func(p *api.Plan) {
		for i := range p.Persons {
			p.Persons[i].Nation = 3
		}
	})
	if l, e := draws.Pick(none, 0); len(l) > 0 || e != api.ErrArg {
		t.Errorf("Pick = %v, %d though no draw obeys", l, e)
	}
}

// P6.4 to P6.8: TestAll: all draws of random plans, in their order, are those by the chapter's words.
func TestAll(t *testing.T) {
	none := 0
	eachPlan(t, 300, func(t *testing.T, r *rand.Rand, p api.Plan) {
		all := drawsBy(p)
		if n := countOf(t, p); n != len(all) {
			t.Fatalf("Count = %d instead of %d", n, len(all))
		}
		if len(all) == 0 {
			none++
		}
		sum := 0
		for _, lot := range p.Lots {
			sum += lot
		}
		wanted := drawn{nil, api.ErrNone}
		if len(all) > 0 {
			wanted = drawn{all[sum%len(all)], api.OK}
		}
		if d := draw(p); !d.equal(wanted) {
			t.Errorf("Draw = %v instead of %v", d, wanted)
		}
		for range min(20, len(all)) {
			n := r.IntN(len(all))
			if l, e := draws.Pick(p, n); !slices.Equal(l, all[n]) || e != api.OK {
				t.Errorf("Pick of %d = %v, %d instead of %v", n, l, e, all[n])
			}
			if m, e := draws.Index(p, all[n]); m != n || e != api.OK {
				t.Errorf("Index of %v = %d, %d instead of %d", all[n], m, e, n)
			}
		}
		player := p.Persons[r.IntN(len(p.Persons))].Player
		if l := facingOf(t, p, player); !slices.Equal(l, facingBy(p, all, player)) {
			t.Errorf("Facing of %d = %v instead of %v", player, l, facingBy(p, all, player))
		}
	})
	if none < 10 {
		t.Errorf("only %d plans are without draws", none)
	}
}

// facingBy returns in how many of all draws a player faces each person, and Bye.
func facingBy(p api.Plan, all [][]int, player int) []int {
	var out []int
	for _, other := range append(players(p), -1) {
		n := 0
		for _, sheet := range all {
			n += times(facedBy(sheet)[player], other)
		}
		out = append(out, n)
	}
	return out
}

// P6.8: TestFacing: whom a player faces, in the order of the plan, and at last Bye.
func TestFacing(t *testing.T) {
	none := with(open(), func(p *api.Plan) { p.Persons[2].Nation, p.Persons[3].Nation = 1, 1 })
	for name, x := range map[string]struct {
		p      api.Plan
		player int
		facing []int
		e      api.Errno
	}{
		"1 of R":                     {open(), 1, []int{0, 0, 8, 8, 0}, api.OK},
		"4 of R":                     {open(), 4, []int{8, 8, 0, 0, 0}, api.OK},
		"10 of P":                    {four(), 10, []int{0, 0, 0, 2}, api.OK},
		"20 of P":                    {four(), 20, []int{0, 0, 2, 0}, api.OK},
		"3 of Q":                     {eight(), 3, []int{0, 0, 0, 0, 2, 2, 0}, api.OK},
		"2 of Q":                     {eight(), 2, []int{0, 0, 0, 0, 0, 0, 4}, api.OK},
		"not in the order of number": {with(open(), func(p *api.Plan) { p.Persons[0].Player = 9 }), 3, []int{8, 8, 0, 0, 0}, api.OK},
		"no draw obeys":              {none, 3, []int{0, 0, 0, 0, 0}, api.OK},
		"no person":                  {four(), 11, nil, api.ErrArg},
		"an index":                   {four(), 0, nil, api.ErrArg},
		"Bye":                        {four(), -1, nil, api.ErrArg},
		"above":                      {four(), 1000, nil, api.ErrArg},
	} {
		if l, e := draws.Facing(x.p, x.player); !slices.Equal(l, x.facing) || e != x.e {
			t.Errorf("%s: Facing = %v, %d", name, l, e)
		}
	}
}
