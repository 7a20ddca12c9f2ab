package purse

import (
	"maps"
	"slices"

	"deuce/api"
	"deuce/bracket"
)

// everyone is the Person of the sums of all bills.
const everyone = -1

// pool returns the prizes of all players together, in the end.
func (b *book) pool() int {
	sum := b.Prizes[b.Tree.Rounds]
	for round := range b.Tree.Rounds {
		// Whoever wins, each match of the round has one loser, who has won all rounds before.
		sum += b.Prizes[round] * (len(b.Tree.Slots) >> (round + 1))
	}
	for _, player := range b.Tree.Slots {
		// A bye loses in the round 0, but has no prize.
		if player == api.Bye {
			sum -= b.Prizes[0]
		}
	}
	return sum
}

// gross returns the least and the greatest gross of a person.
func (b *book) gross(person int) api.Span {
	t := b.teams[person]
	won, e := bracket.Reached(b.Tree, b.Slips, t.Player)
	if e != api.OK {
		// The player is not in the draw (any more).
		return api.Span{}
	}
	share := shareOf(t, person)
	return api.Span{Low: share(b.Prizes[won.Low]), High: share(b.Prizes[won.High])}
}

// shareOf returns what a person of a team gets of a prize.
func shareOf(t api.Team, person int) func(prize int) int {
	return func(prize int) int {
		half := prize / 2
		switch {
		case t.Two == nobody:
			return prize
		case t.One == person:
			return prize - half
		}
		return half
	}
}

// bill returns the bill of a person.
func (b *book) bill(person int) api.Bill {
	out := api.Bill{Person: person, Gross: b.gross(person).Low}
	out.Tax = out.Gross * b.levies[person].Mille / 1000
	for _, i := range b.Items {
		if i.Person != person {
			continue
		}
		switch i.Kind {
		case api.Fine:
			out.Fines += i.Amount
		case api.Stay:
			out.Daily += i.Amount * b.Daily
		}
	}
	net := out.Gross + out.Daily - out.Tax - out.Fines
	out.Debt = max(-net, 0)
	out.Units, out.Used = exchange(max(net, 0), b.rateOf(person))
	out.Rest = max(net, 0) - out.Used
	return out
}

// rateOf returns the rate of a person: a unit for a cent if there is none.
func (b *book) rateOf(person int) api.Rate {
	r, has := b.rates[person]
	if !has {
		return api.Rate{Person: person, Num: 1, Den: 1}
	}
	return r
}

// exchange returns how many units there are for cents, and the fewest cents that give as many.
func exchange(cents int, r api.Rate) (units, used int) {
	units = cents * r.Num / r.Den
	return units, (units*r.Den + r.Num - 1) / r.Num
}

// bills returns the bills of all persons, in ascending order.
func (b *book) bills() []api.Bill {
	var out []api.Bill
	for _, person := range slices.Sorted(maps.Keys(b.teams)) {
		out = append(out, b.bill(person))
	}
	return out
}

// total returns the sums of bills.
func total(bills []api.Bill) api.Bill {
	sum := api.Bill{Person: everyone}
	for _, b := range bills {
		sum.Gross += b.Gross
		sum.Tax += b.Tax
		sum.Daily += b.Daily
		sum.Fines += b.Fines
		sum.Debt += b.Debt
		sum.Units += b.Units
		sum.Used += b.Used
		sum.Rest += b.Rest
	}
	return sum
}

// paid returns how many units were paid to whom before, and whether the payments are valid.
func (b *book) paid(before []api.Payment) (units map[int]int, valid bool) {
	if len(before) > maxPayments {
		return nil, false
	}
	units = map[int]int{}
	for _, p := range before {
		if !b.has(p.Person) || !within(p.Units, 0, maxUnits) {
			return nil, false
		}
		units[p.Person] += p.Units
	}
	return units, true
}
