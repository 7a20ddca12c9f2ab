package referee_test

import (
	"fmt"
	"math/rand/v2"
	"slices"
	"strconv"
	"testing"

	"deuce/api"
	"deuce/card"
	"deuce/lines"
	"deuce/play"
	"deuce/purse"
	"deuce/score"
)

// P0.17: TestCardOfMatch: the card of the points of an open match has just one board, which is what the referee answers.
func TestCardOfMatch(t *testing.T) {
	cards, sets := 0, 0
	eachStory(t, 300, api.MaxScript-1, func(t *testing.T, r *rand.Rand, s story) {
		for i, at := range s.registers[:len(s.script)] {
			if at.Round == -1 || len(at.Points) > api.MaxMarks {
				continue
			}
			cards++
			c := api.Card{Format: s.d.Format, First: at.First}
			for _, side := range at.Points {
				c.Marks = append(c.Marks, api.Note{Kind: api.Noted, Side: side})
			}
			boards, e := card.Boards(c)
			told := behind(t, s.d, s.script[:i], "score")[0]
			if e != api.OK || len(boards) != 1 || told != scoreBy(boards[0]) {
				t.Errorf("the score is %q, Boards of %v = %v, %d", told, c, boards, e)
			}
			count(&sets, len(told) > len("0-0 0-0"))
		}
	})
	if cards < 2000 || sets < 50 {
		t.Errorf("only %d cards, %d with sets", cards, sets)
	}
}

// matchOf returns lines that play a match to its end: by points, or, if these would be too many, until a side leaves it.
func matchOf(r *rand.Rand, d api.Desk, b api.Bout, most int) []string {
	first, better := r.IntN(2), r.IntN(2)
	out := []string{fmt.Sprintf("open %d %d %d", b.Round, b.Place, first)}
	var points []int
	for len(out) < most-1 && r.IntN(40) > 0 {
		side := better
		if r.IntN(4) == 0 {
			side = 1 - better
		}
		points = append(points, side)
		out = append(out, fmt.Sprintf("point %d", side))
		if s, _ := score.Play(d.Format, first, points); s.Winner != -1 {
			return out
		}
	}
	return append(out, fmt.Sprintf("%s %d", one(r, "retire", "default"), r.IntN(2)))
}

// eventOf returns a script in which all matches of a draw are over in the end; some lucky losers come if there are to be any.
func eventOf(t *testing.T, r *rand.Rand, d api.Desk, luckies bool) []string {
	t.Helper()
	var script []string
	for {
		_, at := run(t, d, script)
		ready := readyOf(t, d, at)
		if len(ready) == 0 {
			return script
		}
		b := one(r, ready...)
		slot := slices.Index(d.Tree.Slots, b.Two)
		// A walkover needs one line; that many are kept for the matches that are left.
		spare := api.MaxScript - len(script) - len(d.Tree.Slots)
		switch {
		case luckies && slot != -1 && spare > 0 && r.IntN(4) == 0:
			script = append(script, fmt.Sprintf("lucky %d %d %d", slot, 100+len(script), b.Two))
		case spare > 2 && r.IntN(4) > 0:
			script = append(script, matchOf(r, d, b, min(spare, 12))...)
		default:
			script = append(script, fmt.Sprintf("walk %d %d %d", b.Round, b.Place, one(r, b.One, b.Two)))
		}
	}
}

// purseOf returns a purse for the draw of a desk, with teams for all players who are or come into it.
func purseOf(r *rand.Rand, d api.Desk, last api.Register) api.Purse {
	p := api.Purse{Tree: d.Tree, Daily: r.IntN(60)}
	for prize := 0; len(p.Prizes) <= d.Tree.Rounds; prize += r.IntN(2000) {
		p.Prizes = append(p.Prizes, prize)
	}
	players := slices.DeleteFunc(slices.Clone(d.Tree.Slots), func(player int) bool { return player == api.Bye })
	for _, s := range last.Slips {
		if s.Kind == api.Lucky {
			players = append(players, s.Player)
		}
	}
	persons := r.Perm(api.MaxPerson + 1)
	for i, player := range players {
		x := api.Team{Player: player, One: persons[2*i], Two: one(r, -1, persons[2*i+1])}
		p.Teams = append(p.Teams, x)
		if r.IntN(2) == 0 {
			p.Levies = append(p.Levies, api.Levy{Person: x.One, Mille: r.IntN(api.MaxMille + 1)})
			p.Rates = append(p.Rates, api.Rate{Person: x.One, Num: 1 + r.IntN(50), Den: 1 + r.IntN(50)})
		}
		if r.IntN(4) == 0 && len(p.Items) < api.MaxItems {
			p.Items = append(p.Items, api.Item{Id: len(p.Items), Kind: one(r, api.Fine, api.Stay), Person: x.One, Amount: r.IntN(20)})
		}
	}
	return p
}

// paid returns payments with more of them, each person once.
func paid(before, more []api.Payment) []api.Payment {
	out := slices.Clone(before)
	for _, p := range more {
		at := slices.IndexFunc(out, func(o api.Payment) bool { return o.Person == p.Person })
		if at == -1 {
			out = append(out, p)
		} else {
			out[at].Units += p.Units
		}
	}
	return out
}

// P0.18: TestSettled: a referee's slips pay a purse whose gross is at most the pool, and the pool when no result is missing; what was paid before is never too much, unless a lucky loser came.
func TestSettled(t *testing.T) {
	settled, below, late := 0, 0, 0
	for seed := range uint64(80) {
		r := random(seed)
		d := randomDesk(r, 1+int(seed)%api.MaxRounds)
		script := eventOf(t, r, d, seed%3 == 0)
		_, last := run(t, d, script)
		p := purseOf(r, d, last)
		var before []api.Payment
		came, slips := false, -1
		for i := range len(script) + 1 {
			_, at := run(t, d, script[:i])
			if len(at.Slips) == slips {
				continue
			}
			slips = len(at.Slips)
			came = came || slips > 0 && at.Slips[slips-1].Kind == api.Lucky
			p.Slips = at.Slips
			pool, e := purse.Pool(p)
			total, f := purse.Total(p)
			pay, over, g := purse.Pay(p, before)
			left := behind(t, d, script[:min(i, api.MaxScript-1)], "left")[0]
			if e != api.OK || f != api.OK || g != api.OK || total.Gross > pool || left == "0" && total.Gross != pool || !came && len(over) > 0 {
				t.Fatalf("seed %d, behind %q: gross %d of %d, with %s matches left, %v too much; %d %d %d", seed, script[:i], total.Gross, pool, left, over, e, f, g)
			}
			before = paid(before, pay)
			count(&settled, left == "0")
			count(&below, total.Gross < pool)
			count(&late, len(over) > 0)
		}
	}
	if settled < 80 || below < 300 {
		t.Errorf("only %d are settled, %d times the gross is below the pool; %d times it is too much", settled, below, late)
	}
}

// eachFitting calls a function with some orders of play that fit.
func eachFitting(t *testing.T, r *rand.Rand, p api.Program, do func(order []api.Seat)) {
	t.Helper()
	if order, e := play.Best(p); e == api.OK {
		do(order)
	}
	for range 30 {
		var order []api.Seat
		for _, job := range r.Perm(len(p.Jobs)) {
			order = append(order, api.Seat{Job: job, Day: r.IntN(len(p.Days)), Court: r.IntN(len(p.Days[0]))})
		}
		slices.SortStableFunc(order, func(a, b api.Seat) int { return a.Day - b.Day })
		if fits, _, e := play.Fits(p, order); e == api.OK && fits {
			do(order)
		}
	}
}

// P0.19: TestPlayedInOrder: if the matches of a draw are opened one after the other in an order of play that fits, each of them can be, and in the end none is left.
func TestPlayedInOrder(t *testing.T) {
	orders, matches := 0, 0
	for seed := range uint64(600) {
		r := random(seed)
		d := randomDesk(r, 1+r.IntN(3))
		for i := range d.Days {
			for court := range d.Days[i] {
				d.Days[i][court].High = api.MaxMinute
			}
		}
		jobs, bouts, e := play.Jobs(d.Tree, nil, d.Stages)
		if e == api.ErrMany {
			continue
		}
		eachFitting(t, r, api.Program{Days: d.Days, Rest: d.Rest, Jobs: jobs}, func(order []api.Seat) {
			orders++
			var script []string
			for i, s := range order {
				answers, _ := run(t, d, append(slices.Clone(script), "jobs"))
				if answers[len(script)] != strconv.Itoa(len(order)-i) {
					t.Errorf("seed %d: behind %q the jobs are %q", seed, script, answers[len(script)])
				}
				lines := matchOf(r, d, bouts[s.Job], 12)
				if told := behind(t, d, script, lines[0])[0]; told != "ok" {
					t.Errorf("seed %d: behind %q the answer to %q is %q", seed, script, lines[0], told)
				}
				script = append(script, lines...)
				matches++
			}
			if told := behind(t, d, script, "left", "jobs", "need"); !slices.Equal(told, []string{"0", "0", "0"}) {
				t.Errorf("seed %d: behind %q the answers are %q", seed, script, told)
			}
		})
		if t.Failed() {
			t.FailNow()
		}
	}
	if orders < 1000 || matches < 2000 {
		t.Errorf("only %d orders, %d matches", orders, matches)
	}
}

// rally is the last ball of a rally: who hit it, what was seen of its mark, the mark, and the box in which it should be.
type rally struct {
	hitter int
	view   api.View
	mark   api.Mark
	box    api.Box
}

// randomRally returns a rally whose call is sure.
func randomRally(r *rand.Rand) rally {
	for {
		x := rally{hitter: r.IntN(2), mark: api.Mark{X: r.IntN(21), Y: r.IntN(21), HalfX: 1 + r.IntN(3), HalfY: 1 + r.IntN(3)}, box: api.Box{Right: 10, Top: 20}}
		across, along := r.IntN(3), r.IntN(3)
		x.view = api.View{
			Size:   20,
			Strips: []api.Strip{{P: 1, Low: x.mark.X - across, High: x.mark.X + across}, {Q: 1, Low: x.mark.Y - along, High: x.mark.Y + along}},
			HalfX:  span(x.mark.HalfX, x.mark.HalfX+r.IntN(2)),
			HalfY:  span(x.mark.HalfY, x.mark.HalfY),
		}
		if call, e := lines.Call(x.view, x.box); e == api.OK && call != api.Open {
			return x
		}
	}
}

// truly returns the side that has won the rally by the true mark: the one that hit the ball, if it was in.
func (x rally) truly() int {
	if in, _ := lines.Touches(x.mark, x.box); in {
		return x.hitter
	}
	return 1 - x.hitter
}

// decided returns the side that has won the rally if the umpire says a call, and it is asked about.
func (x rally) decided(t *testing.T, said int) int {
	t.Helper()
	decision, _, e := lines.Decide(said, x.view, x.box)
	if e != api.OK {
		t.Fatalf("Decide: %d", e)
	}
	if decision == api.In {
		return x.hitter
	}
	return 1 - x.hitter
}

// P0.20: TestSureCalls: if all calls of a match are sure, a referee answers the same whatever the umpires said, and the points are those of the true marks.
func TestSureCalls(t *testing.T) {
	points, over, differ := 0, 0, 0
	for seed := range uint64(200) {
		r := random(seed)
		d := randomDesk(r, 1+r.IntN(3))
		ready := readyOf(t, d, beginning(d))
		if len(ready) == 0 {
			continue
		}
		b := one(r, ready...)
		opening := fmt.Sprintf("open %d %d %d", b.Round, b.Place, r.IntN(2))
		first, second, third := []string{opening}, []string{opening}, []string{opening}
		var truth []int
		for range 1 + r.IntN(70) {
			x := randomRally(r)
			said, other := one(r, api.In, api.Out), one(r, api.In, api.Out)
			truth = append(truth, x.truly())
			first = append(first, fmt.Sprintf("point %d", x.decided(t, said)))
			second = append(second, fmt.Sprintf("point %d", x.decided(t, other)))
			third = append(third, fmt.Sprintf("point %d", x.truly()))
			count(&differ, said != other)
		}
		answers, at := run(t, d, append(first, "score", "server", "left"))
		for _, script := range [][]string{second, third} {
			again, later := run(t, d, append(script, "score", "server", "left"))
			if !slices.Equal(answers, again) || !same(at, later) {
				t.Fatalf("seed %d: the answers are %q, then %q", seed, answers, again)
			}
		}
		if at.Round == -1 {
			over++
			continue
		}
		points += len(at.Points)
		if !slices.Equal(at.Points, truth) {
			t.Fatalf("seed %d: the points are %v, not %v", seed, at.Points, truth)
		}
	}
	if points < 300 || over < 50 || differ < 2000 {
		t.Errorf("only %d points, %d matches are over, %d times the umpires differ", points, over, differ)
	}
}
