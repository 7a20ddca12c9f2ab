package play_test

import (
	"math/rand/v2"
	"reflect"
	"slices"
	"testing"

	"deuce/api"
	"deuce/bracket"
	"deuce/play"
)

func won(round, place, player int) api.Slip {
	return api.Slip{Kind: api.Played, Round: round, Place: place, Player: player}
}

func lucky(slot, player, old int) api.Slip {
	return api.Slip{Kind: api.Lucky, Place: slot, Player: player, Old: old}
}

// two is a tree with two rounds, three one with three.
func two() api.Tree   { return api.Tree{Rounds: 2, Slots: []int{1, 2, 3, 4}} }
func three() api.Tree { return api.Tree{Rounds: 3, Slots: []int{1, 2, 3, 4, 5, 6, 7, 8}} }

// stages returns different stages of rounds.
func stages(rounds int) []api.Stage {
	var out []api.Stage
	for round := range rounds {
		out = append(out, api.Stage{Length: span(60+round, 90+10*round), Due: min(round, 2)})
	}
	return out
}

// made is what Jobs answers.
type made struct {
	jobs  []api.Job
	bouts []api.Bout
}

// job returns the job of a match, of the stages of the tests.
func job(round int, after ...int) api.Job {
	s := stages(round + 1)[round]
	return api.Job{Length: s.Length, Due: s.Due, After: after}
}

func bout(round, place, one, two int) api.Bout {
	return api.Bout{Round: round, Place: place, One: one, Two: two}
}

// P8.9: TestJobs: the jobs of the matches of a draw that are left.
func TestJobs(t *testing.T) {
	open := api.Unknown
	byes := api.Tree{Rounds: 3, Slots: []int{1, -1, 2, 3, -1, 4, 5, -1}}
	for name, x := range map[string]struct {
		tree api.Tree
		l    []api.Slip
		want made
	}{
		"no slips":       {two(), nil, made{[]api.Job{job(0), job(0), job(1, 0, 1)}, []api.Bout{bout(0, 0, 1, 2), bout(0, 1, 3, 4), bout(1, 0, open, open)}}},
		"one round":      {api.Tree{Rounds: 1, Slots: []int{7, 9}}, nil, made{[]api.Job{job(0)}, []api.Bout{bout(0, 0, 7, 9)}}},
		"one winner":     {two(), []api.Slip{won(0, 0, 2)}, made{[]api.Job{job(0), job(1, 0)}, []api.Bout{bout(0, 1, 3, 4), bout(1, 0, 2, open)}}},
		"another winner": {two(), []api.Slip{won(0, 1, 3)}, made{[]api.Job{job(0), job(1, 0)}, []api.Bout{bout(0, 0, 1, 2), bout(1, 0, open, 3)}}},
		"both winners":   {two(), []api.Slip{won(0, 1, 3), won(0, 0, 1)}, made{[]api.Job{job(1)}, []api.Bout{bout(1, 0, 1, 3)}}},
		"the champion":   {two(), []api.Slip{won(1, 0, 3)}, made{[]api.Job{job(0)}, []api.Bout{bout(0, 0, 1, 2)}}},
		"everything":     {two(), []api.Slip{won(1, 0, 3), won(0, 0, 1)}, made{}},
		"a lucky loser":  {two(), []api.Slip{won(0, 1, 3), lucky(0, 9, 1)}, made{[]api.Job{job(0), job(1, 0)}, []api.Bout{bout(0, 0, 9, 2), bout(1, 0, open, 3)}}},
		"a bye only":     {api.Tree{Rounds: 1, Slots: []int{-1, 4}}, nil, made{}},
		"byes": {byes, nil, made{
			[]api.Job{job(0), job(1, 0), job(1), job(2, 1, 2)},
			[]api.Bout{bout(0, 1, 2, 3), bout(1, 0, 1, open), bout(1, 1, 4, 5), bout(2, 0, open, open)},
		}},
		"six": {three(), []api.Slip{won(0, 2, 6)}, made{
			[]api.Job{job(0), job(0), job(0), job(1, 0, 1), job(1, 2), job(2, 3, 4)},
			[]api.Bout{bout(0, 0, 1, 2), bout(0, 1, 3, 4), bout(0, 3, 7, 8), bout(1, 0, open, open), bout(1, 1, 6, open), bout(2, 0, open, open)},
		}},
		"a winner of the round 1": {three(), []api.Slip{won(1, 1, 6)}, made{
			[]api.Job{job(0), job(0), job(0), job(1, 0, 1), job(2, 3)},
			[]api.Bout{bout(0, 0, 1, 2), bout(0, 1, 3, 4), bout(0, 3, 7, 8), bout(1, 0, open, open), bout(2, 0, open, 6)},
		}},
	} {
		jobs, bouts, e := play.Jobs(x.tree, x.l, stages(x.tree.Rounds))
		if !reflect.DeepEqual(made{jobs, slices.Clip(bouts)}, x.want) && (len(jobs)+len(bouts) > 0 || len(x.want.jobs) > 0) || e != api.OK {
			t.Errorf("%s: Jobs = %v, %v, %d", name, jobs, bouts, e)
		}
	}
}

// P1, P8.9: TestJobsErrors: the error of the draw, then that of stages, then that of too many jobs.
func TestJobsErrors(t *testing.T) {
	check := func(name string, tree api.Tree, l []api.Slip, stages []api.Stage, wanted api.Errno) {
		t.Helper()
		jobs, bouts, e := play.Jobs(tree, l, stages)
		if len(jobs) > 0 || len(bouts) > 0 || e != wanted {
			t.Errorf("%s: Jobs = %v, %v, %d instead of %d", name, jobs, bouts, e, wanted)
		}
	}
	bad := map[string][]api.Stage{"none": nil, "too few": stages(2), "too many": stages(4)}
	for name, s := range map[string]api.Stage{
		"nothing":      {},
		"no minutes":   {Length: span(0, 5)},
		"below":        {Length: span(-1, 5)},
		"ends early":   {Length: span(6, 5)},
		"ends late":    {Length: span(6, 601)},
		"far too late": {Length: span(1441, 1441)},
		"Due below":    {Length: span(1, 5), Due: -1},
		"Due above":    {Length: span(1, 5), Due: 3},
	} {
		for i := range 3 {
			l := stages(3)
			l[i] = s
			bad[name+string(rune('0'+i))] = l
		}
	}
	for name, l := range bad {
		check(name, three(), nil, l, api.ErrRound)
		check(name, three(), []api.Slip{won(2, 0, 1)}, l, api.ErrRound)
		check(name, api.Tree{Rounds: 3}, nil, l, api.ErrTree)
		check(name, three(), []api.Slip{{}}, l, api.ErrSlip)
		check(name, three(), []api.Slip{won(0, 0, 3)}, l, api.ErrClash)
	}
	check("tree", api.Tree{}, []api.Slip{{}}, nil, api.ErrTree)
	check("seven", three(), nil, stages(3), api.ErrMany)
	check("eight, one is won", api.Tree{Rounds: 4, Slots: []int{1, -1, 2, -1, 3, -1, 4, -1, 5, -1, 6, -1, 7, 10, 8, 9}}, []api.Slip{won(0, 7, 9)}, stages(4), api.ErrMany)
	limits := []api.Stage{{Length: span(1, 1)}, {Length: span(600, 600), Due: 2}, {Length: span(1, 600)}}
	if jobs, bouts, e := play.Jobs(three(), []api.Slip{won(0, 0, 1)}, limits); len(jobs) != 6 || len(bouts) != 6 || e != api.OK {
		t.Errorf("Jobs = %v, %v, %d", jobs, bouts, e)
	}
}

// R4: TestJobsMemory: no argument is changed, and no two slices of a result share memory.
func TestJobsMemory(t *testing.T) {
	tree, l, s := three(), []api.Slip{won(0, 0, 1)}, stages(3)
	for range 2 {
		jobs, bouts, e := play.Jobs(tree, l, s)
		if e != api.OK || !slices.Equal(jobs[4].After, []int{1, 2}) || !slices.Equal(jobs[5].After, []int{3, 4}) || bouts[0] != bout(0, 1, 3, 4) {
			t.Errorf("Jobs = %v, %v, %d", jobs, bouts, e)
		}
		jobs[4].After[0], bouts[0].One = 9, 99
		if more := append(jobs[4].After, 7, 8); len(more) != 4 || jobs[5].After[0] != 3 || jobs[5].After[1] != 4 {
			t.Errorf("Jobs = %v now", jobs)
		}
		if !slices.Equal(tree.Slots, three().Slots) || !slices.Equal(l, []api.Slip{won(0, 0, 1)}) || !slices.Equal(s, stages(3)) {
			t.Errorf("the arguments are %v, %v, %v now", tree, l, s)
		}
	}
}

// randomDraw returns a tree, and slips that agree.
func randomDraw(r *rand.Rand) (api.Tree, []api.Slip) {
	t := api.Tree{Rounds: 1 + r.IntN(4)}
	size := 1 << t.Rounds
	numbers := r.Perm(api.MaxPlayer + 1)
	t.Slots, numbers = numbers[:size:size], numbers[size:]
	byes, told := r.IntN(4), r.IntN(12)
	var l []api.Slip
	for match := range size / 2 {
		slot := 2*match + r.IntN(2)
		if r.IntN(4) < byes {
			t.Slots[slot] = api.Bye
		} else if r.IntN(8) == 0 {
			l = append(l, lucky(slot, numbers[match], t.Slots[slot]))
		}
	}
	for round := range t.Rounds {
		for place := range size >> (round + 1) {
			may, _ := bracket.May(t, l, round, place)
			if r.IntN(10) >= told || len(may) == 1 {
				continue
			}
			l = append(l, api.Slip{Kind: 1 + r.IntN(4), Round: round, Place: place, Player: may[r.IntN(len(may))]})
		}
	}
	return t, l
}

// eachDraw calls a function with random draws, and what Jobs answers of them, if they are not too many.
func eachDraw(t *testing.T, times uint64, do func(t *testing.T, r *rand.Rand, tree api.Tree, l []api.Slip, m made)) {
	t.Helper()
	many := uint64(0)
	for seed := range times {
		r := random(seed)
		tree, l := randomDraw(r)
		left, e := bracket.Left(tree, l)
		jobs, bouts, f := play.Jobs(tree, l, stages(tree.Rounds))
		if left > api.MaxJobs {
			many++
			if f != api.ErrMany || len(jobs)+len(bouts) > 0 {
				t.Fatalf("seed %d: Jobs = %v, %v, %d with %d left", seed, jobs, bouts, f, left)
			}
			continue
		}
		if e != api.OK || f != api.OK || len(jobs) != left || len(bouts) != left {
			t.Fatalf("seed %d: Jobs = %v, %v, %d with %d left, %d", seed, jobs, bouts, f, left, e)
		}
		do(t, r, tree, l, made{jobs, bouts})
		if t.Failed() {
			t.Fatalf("seed %d: %v, %v", seed, tree, l)
		}
	}
	if many < times/20 || many > times/2 {
		t.Errorf("%d of %d have too many", many, times)
	}
}

// P8.9, P8.15: TestFromDraw: there is a job for each match whose winner is not sure, in order, each winner's next match is after it, and the jobs are those of a program.
func TestFromDraw(t *testing.T) {
	afters := map[int]int{}
	eachDraw(t, 2000, func(t *testing.T, r *rand.Rand, tree api.Tree, l []api.Slip, m made) {
		all, _ := bracket.Bouts(tree, l)
		n := 0
		for _, b := range all {
			if _, e := bracket.Winner(tree, l, b.Round, b.Place); e == api.OK {
				continue
			}
			j := m.jobs[n]
			var after []int
			for i, x := range m.bouts {
				if x.Round == b.Round-1 && x.Place/2 == b.Place {
					after = append(after, i)
				}
			}
			s := stages(tree.Rounds)[b.Round]
			if m.bouts[n] != b || j.Length != s.Length || j.Due != s.Due || !slices.Equal(j.After, after) || len(j.With) > 0 || j.Earliest != 0 {
				t.Errorf("%d: %v, %v instead of %v after %v", n, j, m.bouts[n], b, after)
			}
			afters[len(after)]++
			n++
		}
		if e := play.Check(api.Program{Days: [][]api.Span{{span(0, 1)}}, Jobs: m.jobs}); e != api.OK {
			t.Errorf("Check of %v: %d", m.jobs, e)
		}
		if len(l) == 0 {
			return
		}
		i := r.IntN(len(l))
		fewer := slices.Delete(slices.Clone(l), i, i+1)
		if bracket.Check(tree, fewer) != api.OK {
			return
		}
		jobs, _, e := play.Jobs(tree, fewer, stages(tree.Rounds))
		if e != api.ErrMany && (e != api.OK || len(jobs) < len(m.jobs)) {
			t.Errorf("Jobs without %v = %v, %d", l[i], jobs, e)
		}
	})
	for n := range 3 {
		if afters[n] < 200 {
			t.Errorf("only %d are after %d", afters[n], n)
		}
	}
}
