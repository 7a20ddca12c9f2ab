package draws_test

import (
	"math/rand/v2"
	"slices"
	"testing"

	"deuce/api"
	"deuce/draws"
)

// allOf returns all draws that obey, by their numbers; of plans with many draws nothing.
func allOf(t *testing.T, p api.Plan) [][]int {
	t.Helper()
	n := countOf(t, p)
	if n > 400 {
		return nil
	}
	var out [][]int
	for i := range n {
		sheet, e := draws.Pick(p, i)
		if e != api.OK {
			t.Fatalf("Pick of %d: %d", i, e)
		}
		out = append(out, sheet)
	}
	return out
}

// sum returns the sum of a list.
func sum(l []int) int {
	n := 0
	for _, x := range l {
		n += x
	}
	return n
}

// P6.11: TestLots: the draw of the lots has the number of their sum; each draw has just one number; all sums in a row give all draws.
func TestLots(t *testing.T) {
	many := 0
	eachPlan(t, 300, func(t *testing.T, r *rand.Rand, p api.Plan) {
		all := allOf(t, p)
		start := r.IntN(api.MaxLot)
		seen := make([]bool, len(all))
		for i := range all {
			p.Lots = []int{start, i}
			sheet, e := draws.Draw(p)
			n, f := draws.Index(p, sheet)
			if e != api.OK || f != api.OK || n != (start+i)%len(all) || seen[n] || !slices.Equal(sheet, all[n]) {
				t.Fatalf("Draw of %v = %v, %d; Index = %d, %d", p.Lots, sheet, e, n, f)
			}
			seen[n] = true
			if is, e := draws.Obeys(p, sheet); !is || e != api.OK {
				t.Errorf("%v: Obeys = %v, %d", sheet, is, e)
			}
			if i > 0 && slices.Compare(all[i-1], all[i]) >= 0 {
				t.Errorf("the draws %d and %d are %v and %v", i-1, i, all[i-1], all[i])
			}
			many++
		}
	})
	if many < 1000 {
		t.Errorf("there are only %d draws", many)
	}
}

// divided returns other lots with the same sum, or fewer ones.
func divided(r *rand.Rand, lots []int) []int {
	total := sum(lots)
	var out []int
	for len(out) < api.MaxLots-1 && total > 0 {
		lot := r.IntN(min(total, api.MaxLot) + 1)
		// What is left must fit in the lots that are left.
		lot = max(lot, total-api.MaxLot*(api.MaxLots-1-len(out)))
		out = append(out, lot)
		total -= lot
	}
	return append(out, total)
}

// P6.12: TestNobodyDecides: lots in another order, or others with the same sum, give the same draw.
func TestNobodyDecides(t *testing.T) {
	eachPlan(t, 500, func(t *testing.T, r *rand.Rand, p api.Plan) {
		first := draw(p)
		other := copied(p)
		r.Shuffle(len(other.Lots), func(i, j int) { other.Lots[i], other.Lots[j] = other.Lots[j], other.Lots[i] })
		if d := draw(other); !d.equal(first) {
			t.Errorf("Draw = %v, and %v by the lots %v", first, d, other.Lots)
		}
		other.Lots = divided(r, p.Lots)
		if sum(other.Lots) != sum(p.Lots) || draws.Check(other) != api.OK {
			t.Fatalf("the lots are %v", other.Lots)
		}
		if d := draw(other); !d.equal(first) {
			t.Errorf("Draw = %v, and %v by the lots %v", first, d, other.Lots)
		}
	})
}

// alike returns the indexes of two persons without seeds, of the same nation, and both qualified or both not; or -1.
func alike(p api.Plan) (int, int) {
	for i, x := range p.Persons {
		for j := i + 1; j < len(p.Persons); j++ {
			if y := p.Persons[j]; i >= p.Seeds && x.Nation == y.Nation && x.Qualified == y.Qualified {
				return i, j
			}
		}
	}
	return -1, -1
}

// P6.13: TestNobodyIsPreferred: of two who are alike each has each slot, and faces each other one, as often.
func TestNobodyIsPreferred(t *testing.T) {
	pairs := 0
	eachPlan(t, 400, func(t *testing.T, r *rand.Rand, p api.Plan) {
		i, j := alike(p)
		if i == -1 {
			return
		}
		a, b := p.Persons[i].Player, p.Persons[j].Player
		facing, other := facingOf(t, p, a), facingOf(t, p, b)
		other[i], other[j] = other[j], other[i]
		if !slices.Equal(facing, other) {
			t.Errorf("Facing of %d is %v, that of %d is %v if they are exchanged", a, facing, b, other)
		}
		all := allOf(t, p)
		for slot := range p.Size {
			first := slices.DeleteFunc(slices.Clone(all), func(sheet []int) bool { return sheet[slot] != a })
			second := slices.DeleteFunc(slices.Clone(all), func(sheet []int) bool { return sheet[slot] != b })
			if len(first) != len(second) {
				t.Errorf("the slot %d has %d in %d draws, %d in %d", slot, a, len(first), b, len(second))
			}
			pairs += len(first)
		}
	})
	if pairs < 1000 {
		t.Errorf("there are only %d such draws", pairs)
	}
}

// P6.14: TestFacingTogether: the numbers of Facing are together Count; nobody faces one of the same nation.
func TestFacingTogether(t *testing.T) {
	never := 0
	eachPlan(t, 400, func(t *testing.T, r *rand.Rand, p api.Plan) {
		n := countOf(t, p)
		for i, x := range p.Persons {
			facing := facingOf(t, p, x.Player)
			if len(facing) != len(p.Persons)+1 || sum(facing) != n || facing[i] != 0 {
				t.Errorf("Facing of %d = %v, Count is %d", x.Player, facing, n)
			}
			for j, y := range p.Persons {
				if i != j && x.Nation != 0 && x.Nation == y.Nation {
					never++
					if facing[j] != 0 {
						t.Errorf("%d faces %d in %d draws", x.Player, y.Player, facing[j])
					}
				}
			}
		}
	})
	if never < 500 {
		t.Errorf("only %d are of one nation", never)
	}
}

// P6.17: TestSeedsApart: the seeds meet late, and without nations there are as many draws at least.
func TestSeedsApart(t *testing.T) {
	seeded, fewer := 0, 0
	eachPlan(t, 400, func(t *testing.T, r *rand.Rand, p api.Plan) {
		free := copied(p)
		for i := range free.Persons {
			free.Persons[i].Nation = 0
		}
		n, most := countOf(t, p), countOf(t, free)
		if n > most {
			t.Errorf("there are %d draws, %d without nations", n, most)
		}
		if n < most {
			fewer++
		}
		if n == 0 || p.Seeds < 2 {
			return
		}
		sheet, e := draws.Pick(p, r.IntN(n))
		if e != api.OK {
			t.Fatalf("Pick: %d", e)
		}
		seeded++
		checkApart(t, p, sheet)
	})
	if seeded < 100 || fewer < 50 {
		t.Errorf("only %d have seeds, %d have fewer draws", seeded, fewer)
	}
}

// checkApart checks that the seeds 1 and 2 can meet in the last round only, and all seeds in the round before it at the earliest.
func checkApart(t *testing.T, p api.Plan, sheet []int) {
	t.Helper()
	part := func(seed, parts int) int {
		return slices.Index(sheet, p.Persons[seed-1].Player) / (p.Size / parts)
	}
	if part(1, 2) == part(2, 2) {
		t.Errorf("the seeds 1 and 2 are in one half of %v", sheet)
	}
	for a := 1; a <= p.Seeds; a++ {
		for b := a + 1; b <= p.Seeds; b++ {
			if part(a, 4) == part(b, 4) {
				t.Errorf("the seeds %d and %d are in one quarter of %v", a, b, sheet)
			}
		}
	}
}
