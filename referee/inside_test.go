package referee

import (
	"slices"
	"testing"

	"deuce/api"
)

// atWork returns a desk at work whose open match, of a tie-break without an end so far, has so many points; a script has too few lines for that.
func atWork(points int) *work {
	w := begin(api.Desk{
		Field:  api.Field{Places: 1},
		Tree:   api.Tree{Rounds: 1, Slots: []int{7, 8}},
		Format: api.Format{Sets: 1, Games: 1, Tie: -1, To: 1, LastTo: 2},
		Days:   [][]api.Span{{{Low: 600, High: 700}}},
		Stages: []api.Stage{{Length: api.Span{Low: 30, High: 60}}},
	})
	w.Round, w.Place = 0, 0
	for point := range points {
		w.Points = append(w.Points, point%2)
	}
	return w
}

// P12.2: TestManyPoints: a match has at most 600 points; the last one can win it.
func TestManyPoints(t *testing.T) {
	w := atWork(api.MaxPoints)
	for _, line := range []string{"point 0", "point 1"} {
		if told := answer(w.commands(), line); told != "full" || len(w.Points) != api.MaxPoints || w.Round != 0 || len(w.Slips) > 0 {
			t.Errorf("the answer to %q is %q, behind it the register is %v", line, told, w.Register)
		}
	}
	if told := answer(w.commands(), "point 2"); told != "no" {
		t.Errorf("the answer to a point of no side is %q", told)
	}
	if told := answer(w.commands(), "retire 0"); told != "8" || len(w.Points) > 0 || w.Round != -1 {
		t.Errorf("the answer to retire 0 is %q", told)
	}
	w = atWork(api.MaxPoints - 2)
	if told := answer(w.commands(), "point 1"); told != "ok" || len(w.Points) != api.MaxPoints-1 {
		t.Errorf("the answer to the point 599 is %q", told)
	}
	if told := answer(w.commands(), "point 1"); told != "8" || !slices.Equal(w.Slips, []api.Slip{{Kind: api.Played, Player: 8}}) {
		t.Errorf("the answer to the point 600 is %q, the slips are %v", told, w.Slips)
	}
	w = atWork(api.MaxPoints - 1)
	if told := answer(w.commands(), "point 1"); told != "ok" || len(w.Points) != api.MaxPoints {
		t.Errorf("the answer to the point 600 is %q", told)
	}
}
