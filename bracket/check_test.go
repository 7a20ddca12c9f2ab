package bracket_test

import (
	"math"
	"slices"
	"testing"

	"deuce/api"
	"deuce/bracket"
)

// checker notes what a function of the table answers besides an error.
type checker func(function string, zero bool, e api.Errno)

// want returns a checker that asks for one error, and for nothing else with it.
func want(t *testing.T, name string, wanted api.Errno) checker {
	return func(function string, zero bool, e api.Errno) {
		t.Helper()
		if !zero || e != wanted {
			t.Errorf("%s: %s: zero %v, %d instead of %d", name, function, zero, e, wanted)
		}
	}
}

// everything calls a checker with what all functions answer.
func everything(check checker, t api.Tree, l []api.Slip, round, place, a, b int) {
	check("Check", true, bracket.Check(t, l))
	bouts, e := bracket.Bouts(t, l)
	check("Bouts", len(bouts) == 0, e)
	bouts, e = bracket.Ready(t, l)
	check("Ready", len(bouts) == 0, e)
	n, e := bracket.Left(t, l)
	check("Left", n == 0, e)
	arguments(check, t, l, round, place, a, b)
}

// arguments calls a checker with what the functions with further arguments answer.
func arguments(check checker, t api.Tree, l []api.Slip, round, place, a, b int) {
	matches(check, t, l, round, place)
	span, e := bracket.Reached(t, l, a)
	check("Reached", span == api.Span{}, e)
	n, e := bracket.Meet(t, l, a, b)
	check("Meet", n == 0, e)
}

// matches calls a checker with what the functions with a match answer.
func matches(check checker, t api.Tree, l []api.Slip, round, place int) {
	n, e := bracket.Winner(t, l, round, place)
	check("Winner", n == 0, e)
	may, e := bracket.May(t, l, round, place)
	check("May", len(may) == 0, e)
}

func invalidTrees() map[string]api.Tree {
	tree := func(rounds int, slots ...int) api.Tree { return api.Tree{Rounds: rounds, Slots: slots} }
	large := make([]int, 64)
	for i := range large {
		large[i] = i
	}
	return map[string]api.Tree{
		"nothing of a tree":     {},
		"no rounds":             tree(0, 1),
		"no rounds, two slots":  tree(0, 1, 2),
		"too many rounds":       tree(6, large...),
		"rounds below":          tree(-1, 1, 2),
		"no slots":              tree(1),
		"one slot":              tree(1, 1),
		"three slots":           tree(1, 1, 2, 3),
		"too many slots":        tree(1, 1, 2, 3, 4),
		"too few slots":         tree(3, 1, 2, 3, 4),
		"player below":          tree(1, 1, -2),
		"player above":          tree(1, 1000, 1),
		"a player twice":        tree(1, 1, 1),
		"a player twice, far":   tree(2, 1, 2, 3, 1),
		"0 twice":               tree(2, 0, 2, 0, 1),
		"two byes":              tree(1, -1, -1),
		"two byes further on":   tree(2, 1, 2, -1, -1),
		"two byes at the start": tree(2, -1, -1, 1, 2),
		"only byes":             tree(2, -1, -1, -1, -1),
	}
}

// invalidSlips is slips that are not as described for T.
func invalidSlips() map[string]api.Slip {
	return map[string]api.Slip{
		"nothing of a slip":        {},
		"kind above":               slip(6, 0, 1, 2),
		"kind below":               slip(-1, 0, 1, 2),
		"player below":             played(0, 1, -1),
		"player above":             played(0, 1, 1000),
		"a bye wins":               played(0, 0, -1),
		"against a bye":            played(0, 0, 1),
		"a walkover of a bye":      slip(api.Walkover, 0, 0, 1),
		"round below":              played(-1, 0, 2),
		"round above":              played(3, 0, 2),
		"place below":              played(1, -1, 2),
		"place above, round 0":     played(0, 4, 2),
		"place above, round 1":     slip(api.Retired, 1, 2, 2),
		"place above, round 2":     slip(api.Default, 2, 1, 2),
		"an old one":               {Kind: api.Played, Place: 1, Player: 2, Old: 3},
		"an old one below":         {Kind: api.Walkover, Place: 1, Player: 2, Old: -1},
		"an old one, retired":      {Kind: api.Retired, Place: 1, Player: 2, Old: 2},
		"an old one, default":      {Kind: api.Default, Place: 1, Player: 2, Old: 1},
		"slot below":               lucky(-1, 9, 1),
		"slot above":               lucky(8, 9, 7),
		"lucky in round 1":         {Kind: api.Lucky, Round: 1, Place: 0, Player: 9, Old: 1},
		"lucky in round -1":        {Kind: api.Lucky, Round: -1, Place: 0, Player: 9, Old: 1},
		"nobody is replaced":       lucky(0, 9, -1),
		"a bye is replaced":        lucky(1, 9, -1),
		"too high one is replaced": lucky(0, 9, 1000),
		"by a bye":                 lucky(0, -1, 1),
		"by a too high one":        lucky(0, 1000, 1),
	}
}

// clashing is slips for T that do not agree.
func clashing() map[string][]api.Slip {
	return map[string][]api.Slip{
		"two kinds":                      {played(0, 1, 2), slip(api.Walkover, 0, 1, 2)},
		"two kinds, far":                 {slip(api.Retired, 2, 0, 2), played(0, 1, 2), slip(api.Default, 2, 0, 2)},
		"two winners":                    {played(0, 1, 2), played(0, 1, 3)},
		"two winners of the last match":  {played(2, 0, 2), played(2, 0, 6)},
		"a loser goes on":                {played(0, 1, 3), played(1, 0, 2)},
		"a loser goes on, told first":    {played(2, 0, 2), played(0, 1, 3)},
		"a loser wins in the end":        {played(2, 0, 2), played(1, 0, 3)},
		"another one of the half":        {played(2, 0, 4), played(1, 1, 7)},
		"two who are sure by others":     {played(2, 0, 4), played(0, 2, 5)},
		"of another match":               {played(0, 1, 4)},
		"of the other half":              {played(1, 1, 2)},
		"who is not in the draw":         {played(2, 0, 9)},
		"who is not, with the number 0":  {played(2, 0, 0)},
		"who has left":                   {lucky(4, 8, 4), played(0, 2, 4)},
		"who has left wins in the end":   {lucky(4, 8, 4), played(2, 0, 4)},
		"who has left again":             {lucky(4, 8, 4), lucky(4, 9, 8), played(0, 2, 8)},
		"another one is there":           {lucky(4, 8, 5)},
		"who never was there":            {lucky(4, 8, 9)},
		"a bye has no number":            {lucky(1, 8, 0)},
		"nobody is in the slot":          {lucky(1, 8, 1)},
		"two for one":                    {lucky(4, 8, 4), lucky(4, 9, 4)},
		"one for two":                    {lucky(4, 8, 4), lucky(5, 8, 5)},
		"one for two, far":               {lucky(4, 8, 4), lucky(0, 8, 1)},
		"who has left comes to another":  {lucky(4, 8, 4), lucky(5, 4, 5)},
		"who is there comes":             {lucky(4, 1, 4)},
		"who is there comes, far behind": {lucky(0, 7, 1)},
		"who is there comes to itself":   {lucky(4, 4, 4)},
		"back again":                     {lucky(4, 8, 4), lucky(4, 4, 8)},
		"round and round":                {lucky(4, 8, 4), lucky(4, 9, 8), lucky(4, 8, 9)},
		"once here, once there":          {lucky(4, 8, 4), lucky(4, 9, 8), lucky(0, 8, 1)},
		"a chain that begins nowhere":    {lucky(4, 8, 9), lucky(4, 9, 8)},
		"a chain with a gap":             {lucky(4, 8, 4), lucky(4, 11, 10)},
		"one of another slot":            {lucky(4, 8, 4), lucky(5, 9, 8)},
	}
}

// P1, P7.1: TestInvalid: the error of the tree comes first, then that of slips, then that they clash, then that of other arguments.
func TestInvalid(t *testing.T) {
	var bad []api.Slip
	for name, s := range invalidSlips() {
		bad = append(bad, s)
		check := want(t, name, api.ErrSlip)
		for _, l := range [][]api.Slip{{s}, example(s), append([]api.Slip{s}, example(example()...)...)} {
			everything(check, three(), l, 0, 0, 1, 2)
			everything(check, three(), l, 3, 0, -1, -1)
		}
		for _, l := range clashing() {
			everything(check, three(), append(l, s), 0, 0, 1, 2)
			everything(check, three(), append([]api.Slip{s}, l...), -1, 0, 1, 1)
		}
	}
	for name, tree := range invalidTrees() {
		check := want(t, name, api.ErrTree)
		for _, l := range [][]api.Slip{nil, example(), bad, make([]api.Slip, 61), {played(0, 0, 1), played(0, 0, 2)}} {
			everything(check, tree, l, 0, 0, 1, 2)
			everything(check, tree, l, -1, -1, 1000, 1000)
		}
	}
	for name, l := range clashing() {
		check := want(t, name, api.ErrClash)
		for range 2 {
			everything(check, three(), l, 0, 0, 1, 2)
			everything(check, three(), l, 0, 4, 9, 99)
			everything(check, three(), l, 5, 5, 1000, -1)
			slices.Reverse(l)
		}
		everything(check, three(), slices.Concat(l, l), 0, 0, 1, 2)
	}
}

// P7.4 to P7.8: TestArguments: the errors of matches and players come last.
func TestArguments(t *testing.T) {
	for _, l := range [][]api.Slip{nil, example()} {
		check := want(t, "a match", api.ErrArg)
		for _, m := range []place{{-1, 0}, {3, 0}, {0, -1}, {0, 4}, {1, 2}, {2, 1}, {math.MinInt, 0}, {math.MaxInt, 0}, {0, math.MinInt}, {0, math.MaxInt}, {63, 0}, {64, 0}, {-64, 0}, {2, 1 << 62}} {
			matches(check, three(), l, m.round, m.place)
		}
		for _, player := range []int{-1, -2, 1000, math.MinInt, math.MaxInt, 1<<32 + 2} {
			span, e := bracket.Reached(three(), l, player)
			check("Reached", span == api.Span{}, e)
			for _, other := range []int{1, 99, player, -1, 1000} {
				n, e := bracket.Meet(three(), l, player, other)
				check("Meet", n == 0, e)
				n, e = bracket.Meet(three(), l, other, player)
				check("Meet", n == 0, e)
			}
		}
		for _, player := range []int{0, 1, 2, 99, 999} {
			n, e := bracket.Meet(three(), l, player, player)
			check("Meet", n == 0, e)
		}
		check = want(t, "who is not in the draw", api.ErrNone)
		for _, player := range []int{0, 9, 99, 999} {
			span, e := bracket.Reached(three(), l, player)
			check("Reached", span == api.Span{}, e)
			n, e := bracket.Meet(three(), l, player, 2)
			check("Meet", n == 0, e)
			n, e = bracket.Meet(three(), l, 2, player)
			check("Meet", n == 0, e)
			n, e = bracket.Meet(three(), l, player, 98)
			check("Meet", n == 0, e)
		}
	}
}

// P7.1: TestValid: trees and slips at the limits.
func TestValid(t *testing.T) {
	chain := []api.Slip{lucky(0, 32, 0)}
	for len(chain) < 29 {
		chain = append(chain, lucky(0, len(chain)+32, len(chain)+31))
	}
	for name, x := range map[string]struct {
		tree  api.Tree
		slips []api.Slip
	}{
		"the example":          {three(), example()},
		"one match":            {api.Tree{Rounds: 1, Slots: []int{0, 999}}, nil},
		"its winner":           {api.Tree{Rounds: 1, Slots: []int{0, 999}}, []api.Slip{slip(api.Default, 0, 0, 999)}},
		"0 wins":               {api.Tree{Rounds: 1, Slots: []int{999, 0}}, []api.Slip{slip(api.Walkover, 0, 0, 0)}},
		"one player":           {api.Tree{Rounds: 1, Slots: []int{-1, 4}}, nil},
		"one player is left":   {api.Tree{Rounds: 1, Slots: []int{4, -1}}, []api.Slip{lucky(0, 0, 4)}},
		"byes in each match":   {api.Tree{Rounds: 2, Slots: []int{-1, 5, 6, -1}}, []api.Slip{played(1, 0, 6)}},
		"all rounds":           {largest(), nil},
		"the last match":       {largest(), []api.Slip{played(4, 0, 30), played(0, 13, 27)}},
		"lucky at the limits":  {three(), []api.Slip{lucky(0, 999, 1), lucky(7, 0, 7), lucky(7, 998, 0)}},
		"slot and match":       {three(), []api.Slip{lucky(3, 8, 3), played(0, 3, 6)}},
		"the most slips":       {largest(), append(slices.Repeat([]api.Slip{played(1, 1, 5)}, 31), chain...)},
		"the most equal slips": {three(), slices.Repeat(example(), 20)},
		"the same by all":      {three(), []api.Slip{played(2, 0, 2), slip(api.Retired, 1, 0, 2), slip(api.Default, 0, 1, 2)}},
		"a bye, and then":      {three(), []api.Slip{played(1, 0, 1)}},
		"a lucky loser wins":   {three(), []api.Slip{played(2, 0, 9), lucky(4, 9, 8), lucky(4, 8, 4)}},
		"lucky for a bye's":    {three(), []api.Slip{lucky(0, 9, 1), played(1, 0, 9)}},
	} {
		if e := bracket.Check(x.tree, x.slips); e != api.OK {
			t.Errorf("%s: Check: %d", name, e)
		}
	}
	for name, l := range map[string][]api.Slip{
		"one too many":         append(slices.Repeat([]api.Slip{played(1, 1, 5)}, 32), chain...),
		"one too many, equal":  slices.Repeat([]api.Slip{played(1, 1, 5)}, 61),
		"too many, and clash":  append(slices.Repeat([]api.Slip{played(1, 1, 5)}, 60), played(1, 1, 6)),
		"very many":            slices.Repeat([]api.Slip{played(1, 1, 5)}, 100000),
		"one too many, lucky":  slices.Repeat([]api.Slip{lucky(0, 99, 0)}, 61),
		"a bye of a late slot": {played(0, 14, 29)},
		"a bye of the last":    {played(0, 15, 30)},
	} {
		everything(want(t, name, api.ErrSlip), largest(), l, 0, 0, 0, 1)
	}
}

// P1: TestExtremes: each number can be anything.
func TestExtremes(t *testing.T) {
	for _, n := range []int{math.MinInt, math.MinInt + 1, -1 << 32, -3, 63, 64, 1 << 32, 1<<32 + 1, 1 << 62, math.MaxInt} {
		for i, tree := range []api.Tree{{Rounds: n, Slots: []int{1, 2}}, {Rounds: n}, {Rounds: 1, Slots: []int{n, 1}}, {Rounds: 1, Slots: []int{1, n}}} {
			if i >= 2 && n >= 0 && n <= 999 {
				continue
			}
			everything(want(t, "tree", api.ErrTree), tree, []api.Slip{{Kind: n, Round: n, Place: n, Player: n, Old: n}}, n, n, n, n)
		}
		for _, s := range []api.Slip{
			{Kind: n, Round: 1, Player: 2}, {Kind: api.Played, Round: n, Player: 2}, {Kind: api.Played, Round: 1, Place: n, Player: 2},
			{Kind: api.Lucky, Round: n, Player: 8, Old: 1}, {Kind: api.Lucky, Place: n, Player: 8, Old: 1}, {Kind: n, Round: n, Place: n, Player: n, Old: n},
		} {
			everything(want(t, "slip", api.ErrSlip), three(), []api.Slip{s}, n, n, n, n)
		}
		if n < 0 || n > 999 {
			everything(want(t, "slip", api.ErrSlip), three(), []api.Slip{{Kind: api.Played, Round: 1, Player: n}}, n, n, n, n)
			everything(want(t, "slip", api.ErrSlip), three(), []api.Slip{lucky(0, n, 1)}, n, n, n, n)
			everything(want(t, "slip", api.ErrSlip), three(), []api.Slip{lucky(0, 9, n)}, n, n, n, n)
			arguments(want(t, "arguments", api.ErrArg), three(), example(), n, n, n, n)
		}
	}
}

// R3: TestEmpty: an empty slice is the same as none.
func TestEmpty(t *testing.T) {
	equal(t, "slips", answersOf(t, three(), []api.Slip{}, []int{1, 2}), answersOf(t, three(), nil, []int{1, 2}))
	if e := bracket.Check(api.Tree{Rounds: 1, Slots: []int{}}, nil); e != api.ErrTree {
		t.Errorf("Check = %d", e)
	}
}

// R4: TestMemory: no argument is changed, and no result shares memory with one.
func TestMemory(t *testing.T) {
	tree, l := three(), example(lucky(4, 9, 8), lucky(0, 10, 1))
	tree.Slots = append(make([]int, 0, 20), tree.Slots...)
	l = append(make([]api.Slip, 0, 20), l...)
	players := []int{1, 2, 8, 9, 10}
	before := answersOf(t, tree, l, players)
	unused := func() bool {
		slots := slices.ContainsFunc(tree.Slots[8:20], func(n int) bool { return n != 0 })
		return !slots && !slices.ContainsFunc(l[5:20], func(s api.Slip) bool { return s != api.Slip{} })
	}
	same := func() bool {
		return slices.Equal(tree.Slots, three().Slots) && slices.Equal(l, example(lucky(4, 9, 8), lucky(0, 10, 1))) && unused()
	}
	if !same() {
		t.Fatalf("the arguments are %v and %v now", tree, l)
	}
	for range 2 {
		bouts, _ := bracket.Bouts(tree, l)
		ready, _ := bracket.Ready(tree, l)
		may, _ := bracket.May(tree, l, 2, 0)
		bouts[0], ready[0], may[0] = api.Bout{}, api.Bout{}, 99
	}
	if !same() {
		t.Errorf("the arguments are %v and %v behind changed results", tree, l)
	}
	equal(t, "behind changed results", answersOf(t, tree, l, players), before)
}
