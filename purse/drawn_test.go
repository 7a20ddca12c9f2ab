package purse_test

import (
	"math/bits"
	"math/rand/v2"
	"slices"
	"testing"

	"deuce/api"
	"deuce/bracket"
	"deuce/draws"
	"deuce/purse"
)

// randomPlan returns a plan of few nations.
func randomPlan(r *rand.Rand) api.Plan {
	p := api.Plan{Size: []int{4, 8}[r.IntN(2)]}
	p.Seeds = r.IntN(p.Size/2 + 1)
	numbers := r.Perm(api.MaxPlayer + 1)
	for i := range p.Size - r.IntN(p.Size/2+1) {
		p.Persons = append(p.Persons, api.Person{Player: numbers[i], Nation: r.IntN(6), Qualified: i >= p.Seeds && r.IntN(4) == 0})
	}
	return p
}

// P0.16: TestLotsAndPrizes: whichever draw the lots pick, the pool of its purse is the same, and everyone can win the last prize.
func TestLotsAndPrizes(t *testing.T) {
	drawn := 0
	for seed := range uint64(150) {
		r := random(seed)
		plan := randomPlan(r)
		rounds := bits.Len(uint(plan.Size)) - 1
		p := api.Purse{Prizes: []int{5, 70, 900, 11001}[:rounds+1]}
		var players []int
		for _, x := range plan.Persons {
			players = append(players, x.Player)
		}
		p.Teams = randomTeams(r, players)
		slices.Sort(players)
		first := -1
		for range 8 {
			plan.Lots = []int{r.IntN(api.MaxLot + 1), r.IntN(api.MaxLot + 1)}
			sheet, e := draws.Draw(plan)
			if e == api.ErrNone {
				break
			}
			drawn++
			p.Tree = api.Tree{Rounds: rounds, Slots: sheet}
			pool, f := purse.Pool(p)
			if first == -1 {
				first = pool
			}
			if e != api.OK || f != api.OK || pool != first || pool == 0 {
				t.Fatalf("seed %d: %v: Pool = %d, %d, %d, of another draw %d", seed, sheet, pool, e, f, first)
			}
			if may, e := bracket.May(p.Tree, nil, rounds-1, 0); !slices.Equal(may, players) || e != api.OK {
				t.Fatalf("seed %d: %v: May = %v, %d", seed, sheet, may, e)
			}
			canWinLast(t, p)
		}
	}
	if drawn < 600 {
		t.Errorf("only %d were drawn", drawn)
	}
}

// canWinLast checks that both persons of each team can have all of the last prize together.
func canWinLast(t *testing.T, p api.Purse) {
	t.Helper()
	gross := answersOf(t, p).gross
	for _, x := range p.Teams {
		all := gross[x.One].High
		if x.Two != -1 {
			all += gross[x.Two].High
		}
		if all != p.Prizes[p.Tree.Rounds] {
			t.Fatalf("%v can win %d, the last prize is one of %v", x, all, p.Prizes)
		}
	}
}
