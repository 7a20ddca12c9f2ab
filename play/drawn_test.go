package play_test

import (
	"math/bits"
	"math/rand/v2"
	"slices"
	"testing"

	"deuce/api"
	"deuce/bracket"
	"deuce/draws"
	"deuce/play"
)

// randomPlan returns a plan of few nations, with two seeds at least.
func randomPlan(r *rand.Rand) api.Plan {
	p := api.Plan{Size: []int{4, 8, 8}[r.IntN(3)], Lots: []int{r.IntN(api.MaxLot + 1), r.IntN(api.MaxLot + 1)}}
	numbers := r.Perm(api.MaxPlayer + 1)
	persons := p.Size - r.IntN(p.Size/2+1)
	p.Seeds = 2 + r.IntN(p.Size/2-1)
	for i := range persons {
		p.Persons = append(p.Persons, api.Person{Player: numbers[i], Nation: r.IntN(7), Qualified: i >= p.Seeds && r.IntN(4) == 0})
	}
	return p
}

// courts returns a program of jobs with one day or more, and some room.
func courts(r *rand.Rand, jobs []api.Job) api.Program {
	p := api.Program{Rest: 30 * r.IntN(3), Jobs: jobs}
	days, courts := 1+r.IntN(3), 1+r.IntN(2)
	for range days {
		var day []api.Span
		for range courts {
			day = append(day, span(600, 800+r.IntN(640)))
		}
		p.Days = append(p.Days, day)
	}
	return p
}

// P0.14: TestPlayedDraw: the draw of the lots is a tree in which the first two seeds meet in the last round only; it has one match fewer to play than there are persons, and in each order of play that fits the last round comes last.
func TestPlayedDraw(t *testing.T) {
	played, many, last, count := 0, 0, 0, 0
	for seed := range uint64(400) {
		r := random(seed)
		p := randomPlan(r)
		sheet, e := draws.Draw(p)
		if e == api.ErrNone {
			continue
		}
		tree := api.Tree{Rounds: bits.Len(uint(p.Size)) - 1, Slots: sheet}
		if e != api.OK || bracket.Check(tree, nil) != api.OK {
			t.Fatalf("seed %d: Draw = %v, %d", seed, sheet, e)
		}
		if round, e := bracket.Meet(tree, nil, p.Persons[0].Player, p.Persons[1].Player); round != tree.Rounds-1 || e != api.OK {
			t.Errorf("seed %d: Meet = %d, %d", seed, round, e)
		}
		s := stages(tree.Rounds)
		for i := range s {
			s[i].Due = 2
		}
		jobs, bouts, e := play.Jobs(tree, nil, s)
		if len(p.Persons) == api.MaxSize {
			many++
			if e != api.ErrMany {
				t.Errorf("seed %d: Jobs = %v, %d", seed, jobs, e)
			}
			continue
		}
		played++
		if len(jobs) != len(p.Persons)-1 || len(bouts) != len(jobs) || e != api.OK {
			t.Errorf("seed %d: Jobs = %v, %v, %d of %d persons", seed, jobs, bouts, e, len(p.Persons))
		}
		program := courts(r, jobs)
		if len(program.Days) > 1 && len(jobs) == api.MaxJobs {
			program.Days = program.Days[:1]
		}
		last += eachFitting(program, func(order []api.Seat) {
			if b := bouts[order[len(order)-1].Job]; b.Round != tree.Rounds-1 {
				t.Fatalf("seed %d: %v comes last in %v", seed, b, order)
			}
			if count++; count%97 == 1 {
				checkFits(t, "an order", program, order)
			}
		})
	}
	if played < 150 || many < 40 || last < 10000 {
		t.Errorf("only %d are played, %d have too many, %d orders fit", played, many, last)
	}
}

// P0.15: TestDayGoesOn: the first seat of an order of play that fits is that of a match that is ready; when it is played, whoever wins, the rest of the order fits what is left.
func TestDayGoesOn(t *testing.T) {
	went := 0
	eachDraw(t, 1200, func(t *testing.T, r *rand.Rand, tree api.Tree, l []api.Slip, m made) {
		p := courts(r, m.jobs)
		order, e := play.Best(p)
		if e == api.ErrNone || len(m.jobs) == 0 {
			return
		}
		ready, f := bracket.Ready(tree, l)
		first := order[0].Job
		b := m.bouts[first]
		if e != api.OK || f != api.OK || !slices.Contains(ready, b) {
			t.Fatalf("%v comes first, but these are ready: %v, %d, %d", b, ready, e, f)
		}
		for _, winner := range []int{b.One, b.Two} {
			more := append(slices.Clone(l), won(b.Round, b.Place, winner))
			jobs, bouts, e := play.Jobs(tree, more, stages(tree.Rounds))
			if e != api.OK || len(jobs) != len(m.jobs)-1 {
				t.Fatalf("Jobs when %d wins %v = %v, %v, %d", winner, b, jobs, bouts, e)
			}
			var rest []api.Seat
			for _, s := range order[1:] {
				old := m.bouts[s.Job]
				s.Job = slices.IndexFunc(bouts, func(x api.Bout) bool { return x.Round == old.Round && x.Place == old.Place })
				rest = append(rest, s)
			}
			left := p
			left.Jobs = jobs
			checkFits(t, "the rest", left, rest)
			went++
		}
	})
	if went < 500 {
		t.Errorf("only %d went on", went)
	}
}
