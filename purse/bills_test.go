package purse_test

import (
	"math/rand/v2"
	"slices"
	"testing"

	"deuce/api"
	"deuce/bracket"
	"deuce/purse"
)

// P10.2: TestPool: the prizes of all players in the end; a bye has none.
func TestPool(t *testing.T) {
	four := api.Tree{Rounds: 2, Slots: []int{1, 2, 3, 4}}
	for name, x := range map[string]struct {
		change func(p *api.Purse)
		want   int
	}{
		"the example":   {func(p *api.Purse) {}, 100 + 100 + 300 + 1001},
		"no results":    {func(p *api.Purse) { p.Slips = nil }, 1501},
		"the last one":  {func(p *api.Purse) { p.Slips = []api.Slip{won(1, 0, 4)} }, 1501},
		"a bye":         {func(p *api.Purse) { p.Tree.Slots[1], p.Slips = api.Bye, nil }, 100 + 300 + 1001},
		"two byes":      {func(p *api.Purse) { p.Tree.Slots[1], p.Tree.Slots[2], p.Slips = api.Bye, api.Bye, nil }, 300 + 1001},
		"no prizes":     {func(p *api.Purse) { p.Prizes = []int{0, 0, 0} }, 0},
		"the last only": {func(p *api.Purse) { p.Prizes = []int{0, 0, 7} }, 7},
		"one round": {func(p *api.Purse) {
			p.Tree, p.Slips, p.Prizes = api.Tree{Rounds: 1, Slots: four.Slots[2:]}, nil, []int{3, 20}
		}, 23},
		"a lucky loser": {func(p *api.Purse) {
			p.Slips = append(p.Slips, lucky(3, 9, 4))
			p.Teams = append(p.Teams, api.Team{Player: 9, One: 91, Two: 90})
		}, 1501},
		"the largest": {func(p *api.Purse) { *p = largest() }, 32 * api.MaxCents},
		"five rounds": {func(p *api.Purse) {
			*p = largest()
			p.Prizes = []int{1, 20, 300, 4000, 50000, 600000}
		}, 16*1 + 8*20 + 4*300 + 2*4000 + 50000 + 600000},
	} {
		if n, e := purse.Pool(with(x.change)); n != x.want || e != api.OK {
			t.Errorf("%s: Pool = %d, %d", name, n, e)
		}
	}
}

// P10.3: TestGross: the least and the greatest gross, in halves, of players who are in the draw.
func TestGross(t *testing.T) {
	bye := with(func(p *api.Purse) { p.Tree.Slots[1], p.Slips = api.Bye, nil })
	last := with(func(p *api.Purse) { p.Slips = []api.Slip{won(1, 0, 4)} })
	replaced := with(func(p *api.Purse) {
		p.Slips = append(p.Slips, lucky(3, 9, 4))
		p.Teams = append(p.Teams, api.Team{Player: 9, One: 91, Two: 90})
	})
	odd := with(func(p *api.Purse) { p.Prizes, p.Slips = []int{1, 1, 3}, nil })
	for i, x := range []struct {
		p      api.Purse
		person int
		want   api.Span
	}{
		{example(), 11, span(150, 501)}, {example(), 12, span(150, 500)}, {example(), 21, span(50, 50)}, {example(), 22, span(50, 50)}, {example(), 31, span(100, 1001)}, {example(), 41, span(100, 1001)},
		{bye, 11, span(150, 501)}, {bye, 12, span(150, 500)}, {bye, 21, span(0, 0)}, {bye, 22, span(0, 0)}, {bye, 31, span(100, 1001)},
		{last, 41, span(1001, 1001)}, {last, 31, span(100, 100)}, {last, 11, span(50, 150)}, {last, 22, span(50, 150)},
		{replaced, 41, span(0, 0)}, {replaced, 91, span(50, 501)}, {replaced, 90, span(50, 500)}, {replaced, 31, span(100, 1001)},
		{odd, 11, span(1, 2)}, {odd, 12, span(0, 1)}, {odd, 31, span(1, 3)},
		{largest(), 0, span(0, 0)}, {largest(), 935, span(5000000, 5000000)},
	} {
		if s, e := purse.Gross(x.p, x.person); s != x.want || e != api.OK {
			t.Errorf("%d: Gross of %d = %v, %d", i, x.person, s, e)
		}
	}
}

// exampleBills is the bills of the example.
func exampleBills() []api.Bill {
	return []api.Bill{
		{Person: 11, Gross: 150, Tax: 37, Daily: 80, Units: 193, Used: 193},
		{Person: 12, Gross: 150, Units: 150, Used: 150},
		{Person: 21, Gross: 50, Fines: 30, Units: 30, Used: 20},
		{Person: 22, Gross: 50, Units: 16, Used: 48, Rest: 2},
		{Person: 31, Gross: 100, Fines: 160, Debt: 60},
		{Person: 41, Gross: 100, Units: 100, Used: 100},
	}
}

// P10.4, P10.5, P10.6: TestExample: the bills of the example, and their sums.
func TestExample(t *testing.T) {
	p := example()
	slices.Reverse(p.Teams)
	for _, p := range []api.Purse{example(), p} {
		a := answersOf(t, p)
		if !slices.Equal(a.bills, exampleBills()) {
			t.Errorf("Bills = %v", a.bills)
		}
		if a.total != (api.Bill{Person: -1, Gross: 600, Tax: 37, Daily: 80, Fines: 190, Debt: 60, Units: 489, Used: 511, Rest: 2}) {
			t.Errorf("Total = %v", a.total)
		}
	}
}

// P10.4: TestBill: tax, days, fines and units, at their edges.
func TestBill(t *testing.T) {
	levy := func(mille int) func(p *api.Purse) {
		return func(p *api.Purse) { p.Levies = []api.Levy{{Person: 31, Mille: mille}} }
	}
	rate := func(num, den int) func(p *api.Purse) {
		return func(p *api.Purse) { p.Rates = []api.Rate{{Person: 41, Num: num, Den: den}} }
	}
	items := func(l ...api.Item) func(p *api.Purse) {
		return func(p *api.Purse) { p.Items = l }
	}
	for name, x := range map[string]struct {
		change func(p *api.Purse)
		want   api.Bill
	}{
		"no tax":              {levy(0), api.Bill{Person: 31, Gross: 100, Fines: 160, Debt: 60}},
		"tax of less than 1":  {levy(9), api.Bill{Person: 31, Gross: 100, Fines: 160, Debt: 60}},
		"tax of 1":            {levy(10), api.Bill{Person: 31, Gross: 100, Tax: 1, Fines: 160, Debt: 61}},
		"half as tax":         {levy(500), api.Bill{Person: 31, Gross: 100, Tax: 50, Fines: 160, Debt: 110}},
		"a rate":              {rate(7, 11), api.Bill{Person: 41, Gross: 100, Units: 63, Used: 99, Rest: 1}},
		"a rate, no unit":     {rate(1, 101), api.Bill{Person: 41, Gross: 100, Rest: 100}},
		"a rate, one unit":    {rate(1, 100), api.Bill{Person: 41, Gross: 100, Units: 1, Used: 100}},
		"many units":          {rate(10000, 1), api.Bill{Person: 41, Gross: 100, Units: 1000000, Used: 100}},
		"few units":           {rate(1, 10000), api.Bill{Person: 41, Gross: 100, Rest: 100}},
		"units of both sorts": {rate(10000, 9999), api.Bill{Person: 41, Gross: 100, Units: 100, Used: 100}},
		"less than a cent":    {rate(9999, 10000), api.Bill{Person: 41, Gross: 100, Units: 99, Used: 100}},
		"a fine":              {items(fine(1, 41, 99)), api.Bill{Person: 41, Gross: 100, Fines: 99, Units: 1, Used: 1}},
		"all as a fine":       {items(fine(1, 41, 100)), api.Bill{Person: 41, Gross: 100, Fines: 100}},
		"a greater fine":      {items(fine(1, 41, 101)), api.Bill{Person: 41, Gross: 100, Fines: 101, Debt: 1}},
		"some fines":          {items(fine(1, 41, 10), fine(0, 41, 10), fine(2, 31, 50)), api.Bill{Person: 41, Gross: 100, Fines: 20, Units: 80, Used: 80}},
		"an item twice":       {items(fine(1, 41, 10), stay(2, 41, 1), fine(1, 41, 10), stay(2, 41, 1)), api.Bill{Person: 41, Gross: 100, Daily: 40, Fines: 10, Units: 130, Used: 130}},
		"some days":           {items(stay(1, 41, 3), stay(0, 41, 30), stay(2, 31, 4)), api.Bill{Person: 41, Gross: 100, Daily: 1320, Units: 1420, Used: 1420}},
		"no days, no fine":    {items(stay(1, 41, 0), fine(2, 41, 0)), api.Bill{Person: 41, Gross: 100, Units: 100, Used: 100}},
	} {
		if b, e := purse.Bill(with(x.change), x.want.Person); b != x.want || e != api.OK {
			t.Errorf("%s: Bill = %v, %d", name, b, e)
		}
	}
}

// P10.4: TestNotDrawn: who is not in the draw, or not any more, has no prize, but days and fines.
func TestNotDrawn(t *testing.T) {
	p := with(func(p *api.Purse) {
		p.Slips = append(p.Slips, lucky(3, 9, 4), lucky(3, 8, 9))
		p.Teams = append(p.Teams, api.Team{Player: 9, One: 91, Two: 90}, api.Team{Player: 8, One: 80, Two: -1}, api.Team{Player: 7, One: 70, Two: 71})
		p.Items = append(p.Items, stay(10, 41, 2), fine(11, 90, 5), fine(12, 70, 100), stay(13, 70, 3), fine(14, 80, 1))
	})
	for _, want := range []api.Bill{
		{Person: 41, Daily: 80, Units: 80, Used: 80}, {Person: 90, Fines: 5, Debt: 5}, {Person: 91}, {Person: 70, Daily: 120, Fines: 100, Units: 20, Used: 20}, {Person: 71},
		{Person: 80, Gross: 100, Fines: 1, Units: 99, Used: 99},
	} {
		if b, e := purse.Bill(p, want.Person); b != want || e != api.OK {
			t.Errorf("Bill = %v, %d", b, e)
		}
	}
}

// P10.4 to P10.6: TestLargest: the greatest numbers.
func TestLargest(t *testing.T) {
	a := answersOf(t, largest())
	i := slices.IndexFunc(a.bills, func(b api.Bill) bool { return b.Person == 935 })
	want := api.Bill{Person: 935, Gross: 5000000, Tax: 2500000, Daily: 120000000, Units: 1225000000000, Used: 122500000}
	if len(a.bills) != 128 || a.bills[i] != want {
		t.Errorf("Bills = %v", a.bills)
	}
	// All 32 players have the prize, halved by the tax, and one of them all days.
	want = api.Bill{Person: -1, Gross: 320000000, Tax: 160000000, Daily: 120000000, Units: 2800000000000, Used: 280000000}
	if a.total != want {
		t.Errorf("Total = %v", a.total)
	}
	fined := largest()
	for i := range fined.Items {
		fined.Items[i].Kind, fined.Items[i].Amount = api.Fine, api.MaxCents
	}
	want = api.Bill{Person: 935, Gross: 5000000, Tax: 2500000, Fines: 400000000, Debt: 397500000}
	if b, e := purse.Bill(fined, 935); b != want || e != api.OK {
		t.Errorf("Bill = %v, %d", b, e)
	}
}

// billBy returns the bill of a person with a gross, by the chapter's words, counting one by one.
func billBy(p api.Purse, person, gross int) api.Bill {
	b := api.Bill{Person: person, Gross: gross}
	for _, l := range p.Levies {
		if l.Person == person {
			for (b.Tax+1)*1000 <= gross*l.Mille {
				b.Tax++
			}
		}
	}
	for _, i := range differentItems(p.Items) {
		switch {
		case i.Person == person && i.Kind == api.Fine:
			b.Fines += i.Amount
		case i.Person == person:
			b.Daily += i.Amount * p.Daily
		}
	}
	net := b.Gross + b.Daily - b.Tax - b.Fines
	if net < 0 {
		b.Debt = -net
		return b
	}
	num, den := 1, 1
	for _, r := range p.Rates {
		if r.Person == person {
			num, den = r.Num, r.Den
		}
	}
	for (b.Units+1)*den <= net*num {
		b.Units++
	}
	for b.Used*num/den < b.Units {
		b.Used++
	}
	b.Rest = net - b.Used
	return b
}

// P10.4, P10.5, P10.6: TestBillsByWords: all bills of random purses, and their sums, are those by the chapter's words.
func TestBillsByWords(t *testing.T) {
	debts, rests := 0, 0
	eachPurse(t, 300, api.MaxRounds, func(t *testing.T, r *rand.Rand, p api.Purse) {
		a := answersOf(t, p)
		total := api.Bill{Person: -1}
		gross := grossBy(t, p)
		for i, person := range personsOf(p) {
			b := billBy(p, person, gross[person])
			if a.bills[i] != b {
				t.Errorf("Bill = %v instead of %v", a.bills[i], b)
			}
			total = api.Bill{
				Person: -1, Gross: total.Gross + b.Gross, Tax: total.Tax + b.Tax, Daily: total.Daily + b.Daily, Fines: total.Fines + b.Fines,
				Debt: total.Debt + b.Debt, Units: total.Units + b.Units, Used: total.Used + b.Used, Rest: total.Rest + b.Rest,
			}
			if b.Debt > 0 {
				debts++
			}
			if b.Rest > 0 {
				rests++
			}
		}
		if a.total != total {
			t.Errorf("Total = %v instead of %v", a.total, total)
		}
	})
	if debts < 200 || rests < 200 {
		t.Errorf("only %d have debts, %d have a rest", debts, rests)
	}
}

// P10.2, P10.3: TestAllCourses: Pool is what all have in the end of each course, and Gross the least and the greatest of all courses.
func TestAllCourses(t *testing.T) {
	open := 0
	eachPurse(t, 200, 3, func(t *testing.T, r *rand.Rand, p api.Purse) {
		a := answersOf(t, p)
		all := map[int]api.Span{}
		eachEnd(t, p, func(end api.Purse) {
			sum, wins := 0, winsBy(t, end)
			for player := range wins {
				sum += prizeOf(end, wins, player)
			}
			if sum != a.pool {
				t.Fatalf("Pool = %d, but %d are paid in the end", a.pool, sum)
			}
			for person, n := range grossBy(t, end) {
				s, known := all[person]
				if !known {
					s = span(n, n)
				}
				all[person] = span(min(s.Low, n), max(s.High, n))
			}
		})
		for person, s := range all {
			if a.gross[person] != s {
				t.Errorf("Gross of %d = %v instead of %v", person, a.gross[person], s)
			}
			if s.Low < s.High {
				open++
			}
		}
		if left, e := bracket.Left(p.Tree, p.Slips); e != api.OK || left == 0 && a.total.Gross != a.pool {
			t.Errorf("Total = %v, Pool = %d, %d", a.total, a.pool, e)
		}
	})
	if open < 200 {
		t.Errorf("only %d are open", open)
	}
}
