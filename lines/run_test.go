package lines_test

import (
	"math"
	"slices"
	"testing"

	"deuce/api"
	"deuce/lines"
)

// asks returns an appeal of a side about a call for a box of the examples: in of B (3), open of C (2), out of D (1).
func asks(side, said, right int) api.Appeal {
	return api.Appeal{Kind: api.Ask, Side: side, Said: said, View: view(), Box: box(right)}
}

// changed returns an appeal of the side 0, who is right, with something changed.
func changed(change func(a *api.Appeal)) api.Appeal {
	a := asks(0, api.Out, 3)
	change(&a)
	return a
}

var (
	set = api.Appeal{Kind: api.NewSet}
	tie = api.Appeal{Kind: api.TieBreak}
)

// P2.11, P2.18: TestRun: challenges that are given, kept and lost.
func TestRun(t *testing.T) {
	wild := api.Appeal{Side: -7, Said: 9, View: api.View{Size: -1}, Box: api.Box{Left: 99}}
	wildSet, wildTie := wild, wild
	wildSet.Kind, wildTie.Kind = api.NewSet, api.TieBreak
	unseen := changed(func(a *api.Appeal) { a.View, a.Said = none(), api.In })
	lost, other := asks(0, api.Out, 1), asks(1, api.In, 3)
	for name, x := range map[string]struct {
		each, more int
		l          []api.Appeal
		want       []int
		left       [2]int
	}{
		"the example":            {2, 1, []api.Appeal{set, asks(1, api.Out, 1), asks(1, api.Out, 3), tie}, []int{api.Out, api.In}, [2]int{3, 2}},
		"nothing":                {9, 9, nil, nil, [2]int{0, 0}},
		"nothing at all":         {0, 0, []api.Appeal{}, nil, [2]int{0, 0}},
		"a set":                  {3, 1, []api.Appeal{set}, nil, [2]int{3, 3}},
		"two sets":               {3, 1, []api.Appeal{set, set}, nil, [2]int{3, 3}},
		"only a tie-break":       {3, 1, []api.Appeal{tie}, nil, [2]int{1, 1}},
		"many tie-breaks":        {9, 9, []api.Appeal{set, tie, tie}, nil, [2]int{27, 27}},
		"a set takes away":       {1, 5, []api.Appeal{tie, set}, nil, [2]int{1, 1}},
		"a set gives back":       {2, 0, []api.Appeal{set, lost, lost, other, set}, []int{api.Out, api.Out, api.In}, [2]int{2, 2}},
		"the rest is kept":       {2, 3, []api.Appeal{set, lost, tie, other}, []int{api.Out, api.In}, [2]int{4, 4}},
		"a tie-break gives":      {1, 1, []api.Appeal{set, lost, tie, lost, other}, []int{api.Out, api.Out, api.In}, [2]int{0, 1}},
		"all lost":               {1, 1, []api.Appeal{set, other, lost}, []int{api.In, api.Out}, [2]int{0, 0}},
		"right ones are kept":    {1, 0, []api.Appeal{set, asks(0, api.Out, 3), asks(0, api.In, 1), asks(1, api.Out, 3)}, []int{api.In, api.Out, api.In}, [2]int{1, 1}},
		"open ones are kept":     {1, 0, []api.Appeal{set, asks(0, api.Out, 2), asks(0, api.In, 2), asks(1, api.In, 2)}, []int{api.Out, api.In, api.In}, [2]int{1, 1}},
		"without a truth":        {1, 0, []api.Appeal{set, unseen, unseen}, []int{api.In, api.In}, [2]int{1, 1}},
		"the other side is free": {1, 0, []api.Appeal{set, lost, asks(1, api.Out, 3), other}, []int{api.Out, api.In, api.In}, [2]int{0, 0}},
		"what does not matter":   {2, 1, []api.Appeal{wildSet, wildTie, lost}, []int{api.Out}, [2]int{2, 3}},
		"thirty":                 {9, 9, slices.Repeat([]api.Appeal{set, tie, lost}, 10), slices.Repeat([]int{api.Out}, 10), [2]int{17, 18}},
	} {
		l, left, e := lines.Run(api.Rule{Each: x.each, More: x.more}, x.l)
		if e != api.OK || left != x.left || !slices.Equal(l, x.want) {
			t.Errorf("%s: Run = %v, %v, %d", name, l, left, e)
		}
	}
}

// P2.11: TestRunErrors: appeals that cannot be, also behind others that can.
func TestRunErrors(t *testing.T) {
	lost, right := asks(0, api.Out, 1), asks(0, api.Out, 3)
	for name, x := range map[string]struct {
		each, more int
		l          []api.Appeal
	}{
		"each below":                  {-1, 1, nil},
		"each above":                  {10, 1, nil},
		"more below":                  {1, -1, nil},
		"more above":                  {1, 10, nil},
		"each above, greatest number": {math.MaxInt, 1, []api.Appeal{set}},
		"more above, greatest number": {1, math.MaxInt, []api.Appeal{tie, tie}},
		"thirty-one":                  {1, 1, slices.Repeat([]api.Appeal{set}, 31)},
		"no kind":                     {1, 1, []api.Appeal{{}}},
		"kind below":                  {1, 1, []api.Appeal{set, {Kind: -1}}},
		"kind above":                  {1, 1, []api.Appeal{set, {Kind: 4}}},
		"kind of none, else fine":     {1, 1, []api.Appeal{set, changed(func(a *api.Appeal) { a.Kind = 0 })}},
		"side below":                  {1, 1, []api.Appeal{set, changed(func(a *api.Appeal) { a.Side = -1 })}},
		"side above":                  {1, 1, []api.Appeal{set, changed(func(a *api.Appeal) { a.Side = 2 })}},
		"side far above":              {1, 1, []api.Appeal{set, changed(func(a *api.Appeal) { a.Side = math.MaxInt })}},
		"nothing said":                {1, 1, []api.Appeal{set, changed(func(a *api.Appeal) { a.Said = 0 })}},
		"open said":                   {1, 1, []api.Appeal{set, changed(func(a *api.Appeal) { a.Said = api.Open })}},
		"view":                        {1, 1, []api.Appeal{set, changed(func(a *api.Appeal) { a.View.Size = 41 })}},
		"box":                         {1, 1, []api.Appeal{set, changed(func(a *api.Appeal) { a.Box.Left = 4 })}},
		"behind one that is fine":     {1, 1, []api.Appeal{set, lost, tie, right, changed(func(a *api.Appeal) { a.Box.Top = 41 })}},
		"before the first set":        {1, 1, []api.Appeal{right, set}},
		"none in a set":               {0, 1, []api.Appeal{set, right}},
		"none in a tie-break":         {1, 0, []api.Appeal{tie, right}},
		"none left":                   {2, 1, []api.Appeal{set, lost, lost, lost}},
		"none left, but right":        {1, 1, []api.Appeal{set, lost, right}},
		"none left, but open":         {1, 1, []api.Appeal{set, lost, asks(0, api.Out, 2)}},
		"none left, but no truth":     {1, 1, []api.Appeal{set, lost, changed(func(a *api.Appeal) { a.View = none() })}},
		"none left of the side 1":     {1, 1, []api.Appeal{set, asks(1, api.In, 3), asks(1, api.In, 3)}},
		"none left before the set":    {1, 1, []api.Appeal{set, lost, lost, set}},
	} {
		l, left, e := lines.Run(api.Rule{Each: x.each, More: x.more}, x.l)
		if e != api.ErrAppeal || left != [2]int{} || len(l) != 0 {
			t.Errorf("%s: Run = %v, %v, %d", name, l, left, e)
		}
	}
}

// P2.18: TestTheCount: after each appeal of many, only a side that asks about a right call has one challenge less.
func TestTheCount(t *testing.T) {
	seen := map[string]int{}
	for seed := range uint64(300) {
		r := random(seed)
		rule := api.Rule{Each: r.IntN(4), More: r.IntN(3)}
		var l []api.Appeal
		var want []int
		var left [2]int
		for range 1 + r.IntN(30) {
			a := asks(r.IntN(2), 1+r.IntN(2), 1+r.IntN(3))
			switch n := r.IntN(8); {
			case n == 0:
				a = set
			case n == 1:
				a = tie
			case n == 2:
				a.View = none()
			}
			l = append(l, a)
			before := left
			decisions, now, e := lines.Run(rule, l)
			if a.Kind == api.Ask && before[a.Side] == 0 {
				if e != api.ErrAppeal || len(decisions) != 0 || now != [2]int{} {
					t.Fatalf("seed %d: Run = %v, %v, %d without a challenge", seed, decisions, now, e)
				}
				seen["error"]++
				l = l[:len(l)-1]
				continue
			}
			switch a.Kind {
			case api.NewSet:
				left = [2]int{rule.Each, rule.Each}
			case api.TieBreak:
				left = [2]int{before[0] + rule.More, before[1] + rule.More}
			case api.Ask:
				call, _ := lines.Call(a.View, a.Box)
				decision := a.Said
				if call == api.In || call == api.Out {
					decision = call
				}
				want = append(want, decision)
				if call == a.Said {
					left[a.Side]--
					seen["lost"]++
				} else {
					seen["kept"]++
				}
			}
			if e != api.OK || now != left || !slices.Equal(decisions, want) {
				t.Fatalf("seed %d: Run of %d appeals = %v, %v, %d instead of %v, %v", seed, len(l), decisions, now, e, want, left)
			}
		}
	}
	if min(seen["error"], seen["lost"], seen["kept"]) < 100 {
		t.Errorf("too few: %v", seen)
	}
}
