package card_test

import (
	"math/rand/v2"
	"testing"

	"deuce/api"
	"deuce/card"
	"deuce/lines"
)

// rally is the last ball of a rally: who hit it, what was seen of its mark, the mark, and the box in which it should be.
type rally struct {
	hitter int
	view   api.View
	mark   api.Mark
	box    api.Box
}

// randomRally returns a rally: how well the ball was seen differs, but nothing that was seen is wrong.
func randomRally(r *rand.Rand) rally {
	x := rally{hitter: r.IntN(2), mark: api.Mark{X: r.IntN(21), Y: r.IntN(21), HalfX: 1 + r.IntN(3), HalfY: 1 + r.IntN(3)}}
	about := func(n, most int) api.Strip {
		by := r.IntN(most)
		return api.Strip{Low: n - by, High: n + by}
	}
	across, along := about(x.mark.X, 4), about(x.mark.Y, 4)
	across.P, along.Q = 1, 1
	x.view = api.View{
		Size:   20,
		Strips: []api.Strip{across, along},
		HalfX:  api.Span{Low: x.mark.HalfX, High: x.mark.HalfX + r.IntN(2)},
		HalfY:  api.Span{Low: x.mark.HalfY, High: x.mark.HalfY},
	}
	x.box = api.Box{Right: 10, Top: 20}
	return x
}

// winner returns the side that has won the rally: the one that hit the ball, if it was in.
func (x rally) winner() int {
	if in, _ := lines.Touches(x.mark, x.box); in {
		return x.hitter
	}
	return 1 - x.hitter
}

// note returns what is noted of the rally.
func (x rally) note(t *testing.T) api.Note {
	call, e := lines.Call(x.view, x.box)
	switch {
	case e != api.OK:
		t.Fatalf("Call of %v: %d", x.view, e)
	case call == api.In:
		return noted(x.hitter)
	case call == api.Out:
		return noted(1 - x.hitter)
	}
	return noted(-1)
}

// P0.13: TestTrueCalls: the board of the match is one of those of its calls, and the only one if all calls are sure.
func TestTrueCalls(t *testing.T) {
	sure, open := 0, 0
	for name, f := range formats() {
		for seed := range uint64(40) {
			r := random(seed)
			c, m := api.Card{Format: f}, match{}
			unknown := 0
			for range r.IntN(api.MaxMarks + 1) {
				x := randomRally(r)
				longer := match{0, append(m.points, x.winner())}
				if _, is := longer.score(f); !is {
					break
				}
				m = longer
				c.Marks = append(c.Marks, x.note(t))
				if c.Marks[len(c.Marks)-1].Side == -1 {
					unknown++
				}
			}
			s, _ := m.score(f)
			l, e := card.Boards(c)
			if e != api.OK || lacks(l, []api.Board{s.Board}) || unknown == 0 && len(l) != 1 {
				t.Fatalf("%s, seed %d: Boards = %v, %d, of %v, marks %v", name, seed, l, e, s.Board, c.Marks)
			}
			if unknown == 0 && len(m.points) > 0 {
				sure++
			}
			open += unknown
		}
	}
	if sure < 20 || open < 100 {
		t.Errorf("just %d matches are sure, and %d calls are open", sure, open)
	}
}
