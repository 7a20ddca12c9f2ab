package bracket_test

import (
	"math/bits"
	"math/rand/v2"
	"slices"
	"testing"

	"deuce/api"
	"deuce/bracket"
	"deuce/draws"
)

// randomPlan returns a plan of few nations.
func randomPlan(r *rand.Rand) api.Plan {
	p := api.Plan{Size: []int{4, 8, 8}[r.IntN(3)], Lots: []int{r.IntN(api.MaxLot + 1), r.IntN(api.MaxLot + 1)}}
	p.Seeds = r.IntN(p.Size/2 + 1)
	numbers := r.Perm(api.MaxPlayer + 1)
	for i := range p.Size - r.IntN(p.Size/2+1) {
		p.Persons = append(p.Persons, api.Person{Player: numbers[i], Nation: r.IntN(6), Qualified: i >= p.Seeds && r.IntN(4) == 0})
	}
	return p
}

// treeOf returns the tree of a sheet.
func treeOf(sheet []int) api.Tree {
	return api.Tree{Rounds: bits.Len(uint(len(sheet))) - 1, Slots: sheet}
}

// eachDraw calls a function with plans and the draws of their lots.
func eachDraw(t *testing.T, times uint64, do func(t *testing.T, r *rand.Rand, p api.Plan, sheet []int)) {
	t.Helper()
	drawn := 0
	for seed := range times {
		r := random(seed)
		p := randomPlan(r)
		sheet, e := draws.Draw(p)
		if e == api.ErrNone {
			continue
		}
		if e != api.OK {
			t.Fatalf("seed %d: Draw of %+v: %d", seed, p, e)
		}
		drawn++
		do(t, r, p, sheet)
		if t.Failed() {
			t.Fatalf("seed %d: %+v, %v", seed, p, sheet)
		}
	}
	if drawn < int(times)/2 {
		t.Errorf("only %d of %d were drawn", drawn, times)
	}
}

// P0.3, P0.14: TestDrawnTree: the draw of the lots is a tree; nobody of one nation meets in the round 0, byes are those of the first seeds, and there is one match fewer to play than there are persons.
func TestDrawnTree(t *testing.T) {
	eachDraw(t, 600, func(t *testing.T, r *rand.Rand, p api.Plan, sheet []int) {
		tree := treeOf(sheet)
		bouts, e := bracket.Bouts(tree, nil)
		if e != api.OK {
			t.Fatalf("Bouts: %d", e)
		}
		nations := map[int]int{}
		for _, x := range p.Persons {
			nations[x.Player] = x.Nation
		}
		var passed []int
		for _, b := range bouts[:p.Size/2] {
			if b.One >= 0 && b.Two >= 0 && nations[b.One] != 0 && nations[b.One] == nations[b.Two] {
				t.Errorf("%v meet in the round 0", b)
			}
			if b.One == api.Bye || b.Two == api.Bye {
				winner, e := bracket.Winner(tree, nil, b.Round, b.Place)
				if e != api.OK {
					t.Errorf("Winner of %v: %d", b, e)
				}
				passed = append(passed, winner)
			}
		}
		byes := p.Size - len(p.Persons)
		if len(passed) != byes {
			t.Errorf("%v pass", passed)
		}
		for _, x := range p.Persons[:min(byes, p.Seeds)] {
			if !slices.Contains(passed, x.Player) {
				t.Errorf("%v pass, but not %d", passed, x.Player)
			}
		}
		if left, e := bracket.Left(tree, nil); left != len(p.Persons)-1 || e != api.OK {
			t.Errorf("Left = %d, %d of %d persons", left, e, len(p.Persons))
		}
	})
}

// P0.3, P0.14: TestSeedsMeetLate: the first two seeds of the draw of the lots meet in the last round only, all seeds in the round before at the earliest.
func TestSeedsMeetLate(t *testing.T) {
	last, before := 0, 0
	eachDraw(t, 600, func(t *testing.T, r *rand.Rand, p api.Plan, sheet []int) {
		tree := treeOf(sheet)
		for i := range p.Seeds {
			for j := range i {
				round, e := bracket.Meet(tree, nil, p.Persons[i].Player, p.Persons[j].Player)
				if e != api.OK || round < tree.Rounds-2 || i == 1 && round != tree.Rounds-1 {
					t.Errorf("the seeds %d and %d meet in the round %d, %d", i+1, j+1, round, e)
				}
				if round == tree.Rounds-1 {
					last++
				} else {
					before++
				}
			}
		}
	})
	if last < 100 || before < 50 {
		t.Errorf("only %d seeds meet last, %d before", last, before)
	}
}

// P0.16: TestEveryoneCanWin: whichever draw the lots pick, everyone can win all matches.
func TestEveryoneCanWin(t *testing.T) {
	eachDraw(t, 300, func(t *testing.T, r *rand.Rand, p api.Plan, sheet []int) {
		tree := treeOf(sheet)
		var persons []int
		for _, x := range p.Persons {
			persons = append(persons, x.Player)
			if span, e := bracket.Reached(tree, nil, x.Player); span.High != tree.Rounds || e != api.OK {
				t.Errorf("Reached of %d = %v, %d", x.Player, span, e)
			}
		}
		slices.Sort(persons)
		if may, e := bracket.May(tree, nil, tree.Rounds-1, 0); !slices.Equal(may, persons) || e != api.OK {
			t.Errorf("May = %v, %d", may, e)
		}
	})
}

// P0.4: TestReplaced: a sheet in which players were replaced by lucky losers is what there is after a slip for each of them.
func TestReplaced(t *testing.T) {
	came := 0
	eachDraw(t, 600, func(t *testing.T, r *rand.Rand, p api.Plan, sheet []int) {
		gone := slices.DeleteFunc(slices.Clone(sheet), func(player int) bool { return player == api.Bye || r.IntN(3) > 0 })
		numbers := slices.DeleteFunc(r.Perm(api.MaxPlayer+1), func(n int) bool { return slices.Contains(sheet, n) })
		after, e := draws.Replace(p, sheet, gone, numbers[:len(gone)+r.IntN(3)])
		if e != api.OK {
			t.Fatalf("Replace: %d", e)
		}
		var slips []api.Slip
		for slot, player := range sheet {
			if after[slot] != player {
				slips = append(slips, lucky(slot, after[slot], player))
				came++
			}
		}
		if len(slips) != len(gone) {
			t.Errorf("%v left, the slips are %v", gone, slips)
		}
		r.Shuffle(len(slips), func(i, j int) { slips[i], slips[j] = slips[j], slips[i] })
		players := append(playersOf(after, nil), gone...)
		equal(t, "with slips", answersOf(t, treeOf(sheet), slips, players), answersOf(t, treeOf(after), nil, players))
	})
	if came < 500 {
		t.Errorf("only %d came", came)
	}
}
