package purse_test

import (
	"math"
	"slices"
	"testing"

	"deuce/api"
	"deuce/purse"
)

// errorsOf checks that all functions return an error, and nothing else with it; those with further arguments get one that is valid, and ones that are not.
func errorsOf(t *testing.T, name string, p api.Purse, wanted api.Errno) {
	t.Helper()
	check := func(function string, zero bool, e api.Errno) {
		t.Helper()
		if !zero || e != wanted {
			t.Errorf("%s: %s: zero %v, %d instead of %d", name, function, zero, e, wanted)
		}
	}
	check("Check", true, purse.Check(p))
	n, e := purse.Pool(p)
	check("Pool", n == 0, e)
	bills, e := purse.Bills(p)
	check("Bills", len(bills) == 0, e)
	total, e := purse.Total(p)
	check("Total", total == api.Bill{}, e)
	for _, person := range []int{11, 41, 13, -1, 1000, math.MinInt, math.MaxInt} {
		s, e := purse.Gross(p, person)
		check("Gross", s == api.Span{}, e)
		bill, e := purse.Bill(p, person)
		check("Bill", bill == api.Bill{}, e)
		pay, over, e := purse.Pay(p, paid(person, 1))
		check("Pay", len(pay) == 0 && len(over) == 0, e)
	}
	for _, slips := range [][]api.Slip{nil, {{}}, {won(1, 0, 1)}} {
		for _, items := range [][]api.Item{nil, {{}}, slices.Repeat([]api.Item{{}}, 99)} {
			m, e := purse.Merge(p, slips, items)
			check("Merge", same(m, api.Purse{}), e)
		}
	}
}

// numbers is where a purse has numbers, each with the least and the greatest one that is valid, and the error of the others.
func numbers() map[string]struct {
	low, high int
	set       func(p *api.Purse, n int)
	e         api.Errno
} {
	type place = struct {
		low, high int
		set       func(p *api.Purse, n int)
		e         api.Errno
	}
	return map[string]place{
		"Prizes, all":       {0, 10000000, func(p *api.Purse, n int) { p.Prizes = []int{n, n, n} }, api.ErrPurse},
		"Prizes, first":     {0, 300, func(p *api.Purse, n int) { p.Prizes[0] = n }, api.ErrPurse},
		"Prizes, second":    {100, 1001, func(p *api.Purse, n int) { p.Prizes[1] = n }, api.ErrPurse},
		"Prizes, last":      {300, 10000000, func(p *api.Purse, n int) { p.Prizes[2] = n }, api.ErrPurse},
		"Daily":             {0, 100000, func(p *api.Purse, n int) { p.Daily = n }, api.ErrPurse},
		"Player of a team":  {5, 999, func(p *api.Purse, n int) { p.Teams = append(p.Teams, api.Team{Player: n, One: 90, Two: 91}) }, api.ErrTeam},
		"One of a team":     {32, 999, func(p *api.Purse, n int) { p.Teams[3].One = n }, api.ErrTeam},
		"Two of a team":     {42, 999, func(p *api.Purse, n int) { p.Teams[3].Two = n }, api.ErrTeam},
		"low One of a team": {0, 11, func(p *api.Purse, n int) { p.Teams[0].One, p.Levies[0].Person, p.Items[1].Person = n, 12, 12 }, api.ErrTeam},
		"low Two of a team": {-1, 10, func(p *api.Purse, n int) { p.Teams[0].Two = n }, api.ErrTeam},
		"Mille":             {0, 500, func(p *api.Purse, n int) { p.Levies[0].Mille = n }, api.ErrTeam},
		"Num":               {1, 10000, func(p *api.Purse, n int) { p.Rates[1].Num = n }, api.ErrTeam},
		"Den":               {1, 10000, func(p *api.Purse, n int) { p.Rates[1].Den = n }, api.ErrTeam},
		"Id":                {4, 99, func(p *api.Purse, n int) { p.Items = append(p.Items, fine(n, 11, 1)) }, api.ErrItem},
		"low Id":            {0, 1, func(p *api.Purse, n int) { p.Items[0].Id = n }, api.ErrItem},
		"Kind":              {1, 2, func(p *api.Purse, n int) { p.Items[0].Kind = n }, api.ErrItem},
		"Amount of a fine":  {0, 10000000, func(p *api.Purse, n int) { p.Items[0].Amount = n }, api.ErrItem},
		"Amount of a stay":  {0, 30, func(p *api.Purse, n int) { p.Items[1].Amount = n }, api.ErrItem},
	}
}

// P1, P10.1: TestNumbers: each number of a purse has its bounds.
func TestNumbers(t *testing.T) {
	for name, x := range numbers() {
		for _, n := range []int{x.low, x.high} {
			if e := purse.Check(with(func(p *api.Purse) { x.set(p, n) })); e != api.OK {
				t.Errorf("%s: Check of %d: %d", name, n, e)
			}
		}
		for _, n := range []int{x.low - 1, x.high + 1, -1 << 32, 1<<32 + 1, math.MinInt, math.MaxInt} {
			errorsOf(t, name, with(func(p *api.Purse) { x.set(p, n) }), x.e)
		}
	}
}

// invalid is changes by which just one thing of the example is not valid, with its error.
func invalid() map[api.Errno]map[string]func(p *api.Purse) {
	return map[api.Errno]map[string]func(p *api.Purse){
		api.ErrTree: {
			"no tree":  func(p *api.Purse) { p.Tree = api.Tree{} },
			"a slot":   func(p *api.Purse) { p.Tree.Slots[3] = 1 },
			"no slots": func(p *api.Purse) { p.Tree.Slots = nil },
		},
		api.ErrSlip: {
			"a kind":         func(p *api.Purse) { p.Slips[0].Kind = 6 },
			"too many slips": func(p *api.Purse) { p.Slips = slices.Repeat(p.Slips, 61) },
		},
		api.ErrClash: {
			"two winners":  func(p *api.Purse) { p.Slips = append(p.Slips, won(0, 0, 2)) },
			"not in match": func(p *api.Purse) { p.Slips[0].Player = 3 },
			"who has lost": func(p *api.Purse) { p.Slips = append(p.Slips, won(1, 0, 2)) },
		},
		api.ErrPurse: {
			"no prizes":          func(p *api.Purse) { p.Prizes = nil },
			"a prize too few":    func(p *api.Purse) { p.Prizes = p.Prizes[1:] },
			"a prize too many":   func(p *api.Purse) { p.Prizes = append(p.Prizes, 1001) },
			"a smaller prize":    func(p *api.Purse) { p.Prizes[2] = 299 },
			"prizes that fall":   func(p *api.Purse) { p.Prizes = []int{3, 2, 1} },
			"prizes for a round": func(p *api.Purse) { p.Prizes = p.Prizes[:2] },
		},
		api.ErrTeam: {
			"no teams":           func(p *api.Purse) { p.Teams, p.Levies, p.Rates, p.Items = nil, nil, nil, nil },
			"a slot's team":      func(p *api.Purse) { p.Teams = p.Teams[:3] },
			"a lucky one's team": func(p *api.Purse) { p.Slips = append(p.Slips, lucky(2, 9, 3)) },
			"who left again, a team": func(p *api.Purse) {
				p.Slips = append(p.Slips, lucky(2, 9, 3), lucky(2, 8, 9))
				p.Teams = append(p.Teams, api.Team{Player: 8, One: 90, Two: -1})
			},
			"who left, a team":     func(p *api.Purse) { p.Slips = append(p.Slips, lucky(3, 9, 4)); p.Teams[3].Player = 9 },
			"two teams":            func(p *api.Purse) { p.Teams = append(p.Teams, api.Team{Player: 1, One: 90, Two: -1}) },
			"equal teams":          func(p *api.Purse) { p.Teams = append(p.Teams, p.Teams[0]) },
			"One in two teams":     func(p *api.Purse) { p.Teams[3].One = 31 },
			"One is another Two":   func(p *api.Purse) { p.Teams[3].One = 12 },
			"Two in two teams":     func(p *api.Purse) { p.Teams[3].Two = 22 },
			"Two is another One":   func(p *api.Purse) { p.Teams[3].Two = 21 },
			"twice in one":         func(p *api.Purse) { p.Teams[3].Two = 41 },
			"no One":               func(p *api.Purse) { p.Teams[3].One, p.Teams[3].Two = -1, 41 },
			"nobody":               func(p *api.Purse) { p.Teams[3].One = -1 },
			"65 teams":             func(p *api.Purse) { p.Teams = teams(65) },
			"a levy of a stranger": func(p *api.Purse) { p.Levies[0].Person = 13 },
			"a levy of nobody":     func(p *api.Purse) { p.Levies[0].Person = -1 },
			"two levies":           func(p *api.Purse) { p.Levies = append(p.Levies, api.Levy{Person: 11, Mille: 1}) },
			"equal levies":         func(p *api.Purse) { p.Levies = append(p.Levies, p.Levies[0]) },
			"many levies":          func(p *api.Purse) { p.Levies = slices.Repeat(p.Levies, 1000) },
			"a rate of a stranger": func(p *api.Purse) { p.Rates[0].Person = 13 },
			"a rate of nobody":     func(p *api.Purse) { p.Rates[0].Person = -1 },
			"two rates":            func(p *api.Purse) { p.Rates[1].Person = 21 },
			"equal rates":          func(p *api.Purse) { p.Rates = append(p.Rates, p.Rates[0]) },
			"many rates":           func(p *api.Purse) { p.Rates = slices.Repeat(p.Rates, 1000) },
		},
		api.ErrItem: {
			"nothing of an item":   func(p *api.Purse) { p.Items = append(p.Items, api.Item{}) },
			"an item's stranger":   func(p *api.Purse) { p.Items[2].Person = 32 },
			"an item of nobody":    func(p *api.Purse) { p.Items[2].Person = -1 },
			"an item of a player":  func(p *api.Purse) { p.Items[2].Person = 3 },
			"41 items":             func(p *api.Purse) { p.Items = append(fines(38), p.Items...) },
			"41 equal items":       func(p *api.Purse) { p.Items = slices.Repeat(p.Items[:1], 41) },
			"another Kind":         func(p *api.Purse) { p.Items = append(p.Items, fine(2, 11, 2)) },
			"another Person":       func(p *api.Purse) { p.Items = append(p.Items, stay(2, 12, 2)) },
			"another Amount":       func(p *api.Purse) { p.Items = append(p.Items, stay(2, 11, 3)) },
			"equal ones, then not": func(p *api.Purse) { p.Items = append(p.Items, append(p.Items, fine(3, 31, 161))...) },
		},
	}
}

// teams returns so many teams: those of the example, and teams of two behind them.
func teams(n int) []api.Team {
	l := example().Teams
	for i := len(l); i < n; i++ {
		l = append(l, api.Team{Player: 10 + i, One: 100 + 2*i, Two: 101 + 2*i})
	}
	return l
}

// fines returns so many different items.
func fines(n int) []api.Item {
	var l []api.Item
	for i := range n {
		l = append(l, fine(10+i, 11, 0))
	}
	return l
}

// order is the errors of a purse, the first one first.
func order() []api.Errno {
	return []api.Errno{api.ErrTree, api.ErrSlip, api.ErrClash, api.ErrPurse, api.ErrTeam, api.ErrItem}
}

// P1, P10.1 to P10.8: TestInvalid: each function has the error of the purse.
func TestInvalid(t *testing.T) {
	for _, e := range order() {
		for name, change := range invalid()[e] {
			errorsOf(t, name, with(change), e)
		}
	}
}

// P1, P10.1: TestFirstError: if several errors apply, the one that is named first comes.
func TestFirstError(t *testing.T) {
	// These change parts that no other ones do.
	changes := map[api.Errno]func(p *api.Purse){
		api.ErrTree:  func(p *api.Purse) { p.Tree.Rounds = 3 },
		api.ErrSlip:  func(p *api.Purse) { p.Slips = append(p.Slips, api.Slip{}) },
		api.ErrClash: func(p *api.Purse) { p.Slips = append(p.Slips, won(0, 0, 2)) },
		api.ErrPurse: func(p *api.Purse) { p.Daily = -1 },
		api.ErrTeam:  func(p *api.Purse) { p.Rates[1].Den = 0 },
		api.ErrItem:  func(p *api.Purse) { p.Items[1].Kind = 3 },
	}
	for i, first := range order() {
		for _, second := range order()[i:] {
			p := example()
			changes[second](&p)
			changes[first](&p)
			errorsOf(t, "two errors", p, first)
		}
		p := example()
		for _, e := range order()[i:] {
			changes[e](&p)
		}
		errorsOf(t, "all further errors", p, first)
	}
	for name, change := range invalid()[api.ErrPurse] {
		errorsOf(t, name+", no teams", with(func(p *api.Purse) { change(p); p.Teams, p.Items = nil, make([]api.Item, 41) }), api.ErrPurse)
	}
	for name, change := range invalid()[api.ErrTeam] {
		errorsOf(t, name+", 41 items", with(func(p *api.Purse) { change(p); p.Items = make([]api.Item, 41) }), api.ErrTeam)
	}
}

// P10.1: TestValid: purses at the limits.
func TestValid(t *testing.T) {
	for name, change := range map[string]func(p *api.Purse){
		"the example":      func(p *api.Purse) {},
		"the largest":      func(p *api.Purse) { *p = largest() },
		"no slips":         func(p *api.Purse) { p.Slips = nil },
		"60 slips":         func(p *api.Purse) { p.Slips = slices.Repeat(p.Slips, 60) },
		"no money":         func(p *api.Purse) { p.Prizes, p.Daily = []int{0, 0, 0}, 0 },
		"no levies":        func(p *api.Purse) { p.Levies = nil },
		"no rates":         func(p *api.Purse) { p.Rates = nil },
		"no items":         func(p *api.Purse) { p.Items = nil },
		"64 teams":         func(p *api.Purse) { p.Teams = teams(64) },
		"who is not drawn": func(p *api.Purse) { p.Teams = append(p.Teams, api.Team{Player: 9, One: 90, Two: -1}) },
		"a bye":            func(p *api.Purse) { p.Tree.Slots[1], p.Slips = api.Bye, nil },
		"a lucky loser": func(p *api.Purse) {
			p.Slips = append(p.Slips, lucky(2, 9, 3))
			p.Teams = append(p.Teams, api.Team{Player: 9, One: 90, Two: -1})
		},
		"40 items":          func(p *api.Purse) { p.Items = append(fines(37), p.Items...) },
		"40 equal items":    func(p *api.Purse) { p.Items = slices.Repeat(p.Items[:1], 40) },
		"each item twice":   func(p *api.Purse) { p.Items = append(p.Items, p.Items...) },
		"equal but for Ids": func(p *api.Purse) { p.Items = append(p.Items, fine(4, 21, 30), stay(0, 11, 2)) },
		"as a player's":     func(p *api.Purse) { p.Teams[3].Two = 4 },
		"a levy for each": func(p *api.Purse) {
			p.Levies = nil
			for _, person := range personsOf(*p) {
				p.Levies = append(p.Levies, api.Levy{Person: person})
			}
		},
	} {
		if e := purse.Check(with(change)); e != api.OK {
			t.Errorf("%s: Check: %d", name, e)
		}
	}
}

// P1, P10.3, P10.4: TestArguments: then it is asked for a person in a team.
func TestArguments(t *testing.T) {
	for _, p := range []api.Purse{example(), with(func(p *api.Purse) { p.Levies, p.Rates, p.Items = nil, nil, nil })} {
		for _, person := range []int{-1, -2, 0, 1, 10, 13, 999, 1000, 11 + 1<<32, math.MinInt, math.MaxInt} {
			if s, e := purse.Gross(p, person); s != (api.Span{}) || e != api.ErrArg {
				t.Errorf("Gross of %d = %v, %d", person, s, e)
			}
			if b, e := purse.Bill(p, person); b != (api.Bill{}) || e != api.ErrArg {
				t.Errorf("Bill of %d = %v, %d", person, b, e)
			}
		}
	}
}

// R3: TestEmpty: an empty slice is the same as none.
func TestEmpty(t *testing.T) {
	none := with(func(p *api.Purse) { p.Slips, p.Levies, p.Rates, p.Items = nil, nil, nil, nil })
	empty := with(func(p *api.Purse) {
		p.Slips, p.Levies, p.Rates, p.Items = []api.Slip{}, []api.Levy{}, []api.Rate{}, []api.Item{}
	})
	equal(t, "empty", answersOf(t, empty), answersOf(t, none))
	if a := answersOf(t, none); a.total != (api.Bill{Person: -1, Gross: 400, Units: 400, Used: 400}) {
		t.Errorf("Total = %v", a.total)
	}
	for _, before := range [][]api.Payment{nil, {}} {
		if pay, over := payOf(t, empty, before); !slices.Equal(pay, paid(11, 50, 12, 50, 21, 50, 22, 50, 31, 100, 41, 100)) || len(over) > 0 {
			t.Errorf("Pay = %v, %v", pay, over)
		}
	}
	for _, p := range []api.Purse{none, empty} {
		if m, e := purse.Merge(p, []api.Slip{}, []api.Item{}); !same(m, none) || e != api.OK {
			t.Errorf("Merge = %v, %d", m, e)
		}
	}
}

// roomy returns a purse with the same elements, with room for more behind them.
func roomy(p api.Purse) api.Purse {
	p.Tree.Slots, p.Slips, p.Prizes = slices.Grow(p.Tree.Slots, 9), slices.Grow(p.Slips, 9), slices.Grow(p.Prizes, 9)
	p.Teams, p.Levies, p.Rates, p.Items = slices.Grow(p.Teams, 9), slices.Grow(p.Levies, 9), slices.Grow(p.Rates, 9), slices.Grow(p.Items, 9)
	return p
}

// R4: TestMemory: no argument is changed, and no result shares memory with one.
func TestMemory(t *testing.T) {
	p := roomy(with(func(p *api.Purse) { p.Items = append(p.Items, p.Items[0]); slices.Reverse(p.Items) }))
	before := copied(p)
	slips, items, payments := roomy(api.Purse{Slips: []api.Slip{won(1, 0, 1)}}).Slips, []api.Item{fine(0, 41, 1), stay(2, 11, 2)}, paid(41, 5, 11, 300, 41, 5)
	answersOf(t, p)
	purse.Pay(p, payments)
	m := merged(t, p, slips, items)
	behind := p.Slips[:2][1] == api.Slip{} && p.Items[:5][4] == api.Item{} && p.Teams[:5][4] == api.Team{} && slips[:2][1] == api.Slip{}
	if !same(p, before) || !behind || slips[0] != won(1, 0, 1) || !slices.Equal(items, []api.Item{fine(0, 41, 1), stay(2, 11, 2)}) || !slices.Equal(payments, paid(41, 5, 11, 300, 41, 5)) {
		t.Errorf("the arguments are %+v, %v, %v, %v now", p, slips, items, payments)
	}
	m.Tree.Slots[0], m.Prizes[0], m.Teams[0], m.Levies[0], m.Rates[0] = 50, 50, api.Team{}, api.Levy{}, api.Rate{}
	for i := range m.Slips {
		m.Slips[i] = api.Slip{}
	}
	for i := range m.Items {
		m.Items[i] = api.Item{}
	}
	if !same(p, before) || slips[0] != won(1, 0, 1) || items[0] != fine(0, 41, 1) {
		t.Errorf("the arguments are %+v, %v, %v behind a changed result", p, slips, items)
	}
	alone := merged(t, p, nil, nil)
	alone.Slips[0], alone.Items[0] = api.Slip{}, api.Item{}
	if !same(p, before) {
		t.Errorf("the purse is %+v behind a changed result with nothing more", p)
	}
}
