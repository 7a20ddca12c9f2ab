package draws_test

import (
	"math/rand/v2"
	"slices"
	"testing"

	"deuce/api"
	"deuce/draws"
	"deuce/rank"
)

// randomLedger returns a ledger of enough players, most of whom have results.
func randomLedger(r *rand.Rand) api.Ledger {
	l := api.Ledger{Players: 8 + r.IntN(9), Counts: 1 + r.IntN(4)}
	for i := range 20 + r.IntN(21) {
		l.Reports = append(l.Reports, api.Report{Id: i, Player: r.IntN(l.Players), Week: r.IntN(60), Points: 50 * r.IntN(40), Must: r.IntN(5) == 0})
	}
	if r.IntN(3) == 0 {
		l.Bans = []api.Absence{{Player: r.IntN(l.Players), From: 10, To: 10 + r.IntN(50)}}
	}
	return l
}

// rankedPlan returns a plan of the first players of a list, in its order, with two seeds at least, and as many as there are byes.
func rankedPlan(r *rand.Rand, list []int) api.Plan {
	p := api.Plan{Size: []int{4, 8}[r.IntN(2)], Lots: []int{r.IntN(1000), r.IntN(1000)}}
	byes := r.IntN(p.Size/2 + 1)
	p.Seeds = max(2, byes)
	for _, player := range list[:min(len(list), p.Size-byes)] {
		p.Persons = append(p.Persons, api.Person{Player: player})
	}
	return p
}

// P0.11: TestSeedsByRanking: if the players of a list are drawn in its order, the first two meet in the last round only, and byes face the first ones.
func TestSeedsByRanking(t *testing.T) {
	drawn, byes := 0, 0
	for seed := range uint64(400) {
		r := random(seed)
		list, e := rank.List(randomLedger(r), 40)
		if e != api.OK {
			t.Fatalf("seed %d: List: %d", seed, e)
		}
		p := rankedPlan(r, list)
		// Nations are not those of the ranking: they must change nothing.
		for i := range p.Persons {
			p.Persons[i].Nation = r.IntN(5)
		}
		if draws.Check(p) != api.OK {
			continue // the list is too short
		}
		sheet, e := draws.Draw(p)
		if e == api.ErrNone {
			continue
		}
		drawn++
		half := p.Size / 2
		if slices.Index(sheet, list[0])/half == slices.Index(sheet, list[1])/half || e != api.OK {
			t.Errorf("seed %d: %v, %d of the list %v: the first two can meet early", seed, sheet, e, list)
		}
		facing := facedBy(sheet)[-1]
		slices.Sort(facing)
		first := slices.Sorted(slices.Values(list[:p.Size-len(p.Persons)]))
		if !slices.Equal(facing, first) {
			t.Errorf("seed %d: %v of the list %v: byes face %v", seed, sheet, list, facing)
		}
		byes += len(facing)
	}
	if drawn < 200 || byes < 200 {
		t.Errorf("only %d were drawn, with %d byes", drawn, byes)
	}
}

// P0.12: TestLateMonday: whichever reports come late, and in whichever order, the draw of the list is the same.
func TestLateMonday(t *testing.T) {
	drawn := 0
	for seed := range uint64(300) {
		r := random(seed)
		l := randomLedger(r)
		late := l
		all := slices.Clone(l.Reports)
		r.Shuffle(len(all), func(i, j int) { all[i], all[j] = all[j], all[i] })
		cut := r.IntN(len(all) + 1)
		late.Reports = all[:cut]
		late, e := rank.Merge(late, append(slices.Clone(all[cut:]), all[:min(cut, 3)]...))
		if e != api.OK {
			t.Fatalf("seed %d: Merge: %d", seed, e)
		}
		list, e := rank.List(l, 40)
		other, f := rank.List(late, 40)
		if e != api.OK || f != api.OK {
			t.Fatalf("seed %d: List: %d, %d", seed, e, f)
		}
		p, q := rankedPlan(random(seed), list), rankedPlan(random(seed), other)
		first := draw(p)
		if d := draw(q); !d.equal(first) {
			t.Errorf("seed %d: Draw = %v, and %v of the late ledger", seed, first, d)
		}
		if first.e == api.OK {
			drawn++
		}
	}
	if drawn < 200 {
		t.Errorf("only %d were drawn", drawn)
	}
}
