package purse_test

import (
	"math/rand/v2"
	"slices"
	"testing"

	"deuce/api"
	"deuce/bracket"
	"deuce/purse"
)

// P10.9: TestToTheLastCent: what comes in a bill is what goes; no number is negative, and who has debts is paid nothing.
func TestToTheLastCent(t *testing.T) {
	eachPurse(t, 200, api.MaxRounds, func(t *testing.T, r *rand.Rand, p api.Purse) {
		a := answersOf(t, p)
		for _, b := range append(slices.Clone(a.bills), a.total) {
			if b.Gross+b.Daily+b.Debt != b.Tax+b.Fines+b.Used+b.Rest {
				t.Errorf("%+v: not all of it is there", b)
			}
			if min(b.Gross, b.Tax, b.Daily, b.Fines, b.Debt, b.Units, b.Used, b.Rest) < 0 {
				t.Errorf("%+v: something is negative", b)
			}
			if b.Person != -1 && b.Debt != 0 && (b.Used != 0 || b.Rest != 0 || b.Units != 0) {
				t.Errorf("%+v: is paid with debts", b)
			}
		}
	})
}

// P10.10: TestPoolIsPaid: when no result is missing, the Gross of Total is the pool, before at most that; the pool is the same whatever slips come.
func TestPoolIsPaid(t *testing.T) {
	less := 0
	eachPurse(t, 200, api.MaxRounds, func(t *testing.T, r *rand.Rand, p api.Purse) {
		a := answersOf(t, p)
		if a.total.Gross > a.pool {
			t.Errorf("Total = %v, Pool = %d", a.total, a.pool)
		}
		if a.total.Gross < a.pool {
			less++
		}
		end := answersOf(t, ended(t, r, p))
		if end.pool != a.pool || end.total.Gross != end.pool {
			t.Errorf("in the end Total = %v, Pool = %d, before %d", end.total, end.pool, a.pool)
		}
		p.Slips = nil
		if n, e := purse.Pool(p); n != a.pool || e != api.OK {
			t.Errorf("Pool = %d, %d without slips, %d with them", n, e, a.pool)
		}
	})
	if less < 100 {
		t.Errorf("only %d have results missing that matter", less)
	}
}

// P10.11: TestWhatIsSure: in a course the gross is within Gross, which only narrows with more slips; the Gross of the bill is Low.
func TestWhatIsSure(t *testing.T) {
	narrower := 0
	eachPurse(t, 100, 4, func(t *testing.T, r *rand.Rand, p api.Purse) {
		end := ended(t, r, p)
		gross := grossBy(t, end)
		more := end.Slips[len(p.Slips):]
		r.Shuffle(len(more), func(i, j int) { more[i], more[j] = more[j], more[i] })
		before := answersOf(t, p)
		for n := len(p.Slips); n <= len(end.Slips); n++ {
			now := end
			now.Slips = end.Slips[:n]
			a := answersOf(t, now)
			for _, b := range a.bills {
				s, old := a.gross[b.Person], before.gross[b.Person]
				if b.Gross != s.Low {
					t.Errorf("Gross of %d = %v, the bill is %v", b.Person, s, b)
				}
				if s.Low < old.Low || s.High > old.High || gross[b.Person] < s.Low || gross[b.Person] > s.High {
					t.Errorf("Gross of %d = %v after %v, %d in the end", b.Person, s, old, gross[b.Person])
				}
				if s != old {
					narrower++
				}
			}
			before = a
		}
		for person, s := range before.gross {
			if s.Low != s.High {
				t.Errorf("Gross of %d = %v in the end", person, s)
			}
		}
	})
	if narrower < 500 {
		t.Errorf("only %d became narrower", narrower)
	}
}

// P10.12: TestCurrencies: Used gives just as many units, one cent less does not, and the rest buys none.
func TestCurrencies(t *testing.T) {
	rests := 0
	eachPurse(t, 200, api.MaxRounds, func(t *testing.T, r *rand.Rand, p api.Purse) {
		for _, b := range answersOf(t, p).bills {
			num, den := 1, 1
			if i := slices.IndexFunc(p.Rates, func(x api.Rate) bool { return x.Person == b.Person }); i != -1 {
				num, den = p.Rates[i].Num, p.Rates[i].Den
			}
			if b.Used*num/den != b.Units || b.Used > 0 && (b.Used-1)*num/den == b.Units {
				t.Errorf("%+v: Used is not what gives the units, at %d / %d", b, num, den)
			}
			if b.Rest*num/den != 0 || (b.Used+b.Rest)*num/den != b.Units {
				t.Errorf("%+v: more can be bought, at %d / %d", b, num, den)
			}
			if b.Rest > 0 {
				rests++
			}
		}
	})
	if rests < 200 {
		t.Errorf("only %d have a rest", rests)
	}
}

// parts divides a list into a random number of parts.
func parts[E any](r *rand.Rand, l []E, n int) [][]E {
	out := make([][]E, n)
	for _, e := range l {
		i := r.IntN(n)
		out[i] = append(out[i], e)
	}
	return out
}

// instalments merges parts of slips and items into a purse, one after the other, and pays each time what Pay says. It returns the purse in the end, all payments, and whether something was paid too much at some time.
func instalments(t *testing.T, p api.Purse, slips [][]api.Slip, items [][]api.Item) (end api.Purse, before []api.Payment, over bool) {
	t.Helper()
	for i := range slips {
		p = merged(t, p, slips[i], items[i])
		pay, much := payOf(t, p, before)
		over = over || len(much) > 0
		before = append(before, pay...)
		if pay, again := payOf(t, p, before); len(pay) > 0 || !slices.Equal(again, much) {
			t.Errorf("%v, %v are left to pay, %v before", pay, again, much)
		}
	}
	return p, before, over
}

// P10.13: TestInstalments: if results and days come one after the other, and each time is paid what Pay says, nothing is left to pay then, nothing was paid too much, and all together is the Units of the bill in the end.
func TestInstalments(t *testing.T) {
	several := 0
	eachPurse(t, 300, 4, func(t *testing.T, r *rand.Rand, p api.Purse) {
		for range 2 {
			end := ended(t, r, p)
			more := end.Slips[len(p.Slips):]
			stays := slices.DeleteFunc(randomItems(r, personsOf(p), 10), func(i api.Item) bool {
				return i.Kind == api.Fine || slices.ContainsFunc(p.Items, func(x api.Item) bool { return x.Id == i.Id })
			})
			n := 1 + r.IntN(4)
			last, before, over := instalments(t, p, parts(r, more, n), parts(r, stays, n))
			units := unitsOf(before)
			for _, b := range answersOf(t, last).bills {
				if units[b.Person] != b.Units {
					t.Errorf("%d is paid %d units, the bill is %v", b.Person, units[b.Person], b)
				}
			}
			if over {
				t.Errorf("something was paid too much: %v", before)
			}
			if len(before) > len(units) {
				several++
			}
		}
	})
	if several < 200 {
		t.Errorf("only %d were paid in several parts", several)
	}
}

// P10.13: TestTooMuch: with fines and lucky losers that come late what was paid is the Units of the bill and what Pay says was too much.
func TestTooMuch(t *testing.T) {
	overs := 0
	eachPurse(t, 300, 4, func(t *testing.T, r *rand.Rand, p api.Purse) {
		end := ended(t, r, p)
		n := 2 + r.IntN(3)
		start := p
		start.Slips, start.Items = nil, nil
		// The lucky losers come first, and then each slip, as none of those who left has won.
		var luckies, results []api.Slip
		for _, s := range end.Slips {
			if s.Kind == api.Lucky {
				luckies = append(luckies, s)
			} else {
				results = append(results, s)
			}
		}
		slips := append([][]api.Slip{nil, luckies}, parts(r, results, n)...)
		last, before, _ := instalments(t, start, slips, parts(r, p.Items, n+2))
		units := unitsOf(before)
		_, over := payOf(t, last, before)
		much := unitsOf(over)
		for _, b := range answersOf(t, last).bills {
			if units[b.Person] != b.Units+much[b.Person] || much[b.Person] < 0 {
				t.Errorf("%d is paid %d units, %d too much, the bill is %v", b.Person, units[b.Person], much[b.Person], b)
			}
		}
		if len(over) > 0 {
			overs++
		}
	})
	if overs < 100 {
		t.Errorf("only %d were paid too much", overs)
	}
}

// again returns a list in another order, with some elements more often, up to a limit.
func again[E any](r *rand.Rand, l []E, limit int) []E {
	out := slices.Clone(l)
	for len(l) > 0 && len(out) < limit && r.IntN(5) > 0 {
		out = append(out, l[r.IntN(len(l))])
	}
	r.Shuffle(len(out), func(i, j int) { out[i], out[j] = out[j], out[i] })
	return out
}

// P10.7, P10.14: TestAnyOrder: neither the order of slips, items, teams, levies and rates matters, nor how often a slip or an item comes, nor in which parts they come.
func TestAnyOrder(t *testing.T) {
	eachPurse(t, 200, api.MaxRounds, func(t *testing.T, r *rand.Rand, p api.Purse) {
		wanted := answersOf(t, p)
		var before []api.Payment
		for _, b := range wanted.bills {
			before = append(before, api.Payment{Person: b.Person, Units: r.IntN(2 * (1 + b.Units))})
		}
		pay, over := payOf(t, p, before)

		other := p
		other.Slips, other.Items = again(r, p.Slips, api.MaxSlips), again(r, p.Items, api.MaxItems)
		other.Teams, other.Levies, other.Rates = again(r, p.Teams, 0), again(r, p.Levies, 0), again(r, p.Rates, 0)
		equal(t, "in another order", answersOf(t, other), wanted)
		if a, b := payOf(t, other, again(r, before, 0)); !slices.Equal(a, pay) || !slices.Equal(b, over) {
			t.Errorf("Pay = %v, %v in another order instead of %v, %v", a, b, pay, over)
		}

		if part := p.Slips[:r.IntN(len(p.Slips)+1)]; bracket.Check(p.Tree, part) == api.OK {
			other.Slips, other.Items = part, p.Items[:r.IntN(len(p.Items)+1)]
			m := merged(t, other, p.Slips[len(part):], p.Items[len(p.Items)/2:])
			m = merged(t, m, nil, again(r, p.Items, 0))
			equal(t, "in parts", answersOf(t, m), wanted)
			if !slices.Equal(m.Items, differentItems(p.Items)) || !slices.Equal(m.Slips, p.Slips) {
				t.Errorf("Merge = %v, %v of %v, %v", m.Slips, m.Items, p.Slips, p.Items)
			}
		}
	})
}

// P10.15: TestHalves: the gross of both persons of a team are together its prize, and differ by 1 at most; One has the greater half.
func TestHalves(t *testing.T) {
	odd := 0
	eachPurse(t, 200, api.MaxRounds, func(t *testing.T, r *rand.Rand, p api.Purse) {
		gross := answersOf(t, p).gross
		alone := p
		alone.Levies, alone.Rates, alone.Items = nil, nil, nil
		alone.Teams = slices.Clone(p.Teams)
		for i := range alone.Teams {
			alone.Teams[i].Two = -1
		}
		whole := answersOf(t, alone).gross
		for _, x := range p.Teams {
			one, two, all := gross[x.One], gross[x.Two], whole[x.One]
			if x.Two == -1 {
				two = api.Span{}
			}
			if one.Low+two.Low != all.Low || one.High+two.High != all.High {
				t.Errorf("%v: %v and %v of %v", x, one, two, all)
			}
			if x.Two == -1 {
				continue
			}
			if one.Low-two.Low != all.Low%2 || one.High-two.High != all.High%2 {
				t.Errorf("%v: the halves are %v and %v", x, one, two)
			}
			odd += all.Low % 2
		}
	})
	if odd < 100 {
		t.Errorf("only %d are odd", odd)
	}
}
