package referee_test

import (
	"slices"
	"testing"

	"deuce/api"
)

// P12.2: TestOpen: one match can be open, one that is ready.
func TestOpen(t *testing.T) {
	d := drawn(1, api.Bye, 3, 4, 5, 6, 7, 8)
	r := check(t, d, "open 0 0 0: no", "open 1 0 0: no", "open 2 0 0: no", "open 3 0 0: no", "open 0 4 0: no", "open 0 1 2: no", "open 0 1 1: ok", "open 0 1 1: no", "open 0 2 0: no")
	wanted := beginning(d)
	wanted.Round, wanted.Place, wanted.First = 0, 1, 1
	if !same(r, wanted) {
		t.Errorf("the register is %+v", r)
	}
	r = check(t, d, "open 0 3 0: ok", "retire 1: 7", "open 0 3 0: no", "open 1 1 0: no", "open 1 0 0: no", "walk 0 1 4: ok", "open 0 1 0: no", "open 1 0 1: ok", "point 1: ok")
	wanted = beginning(d)
	wanted.Slips = []api.Slip{won(api.Retired, 0, 3, 7), won(api.Walkover, 0, 1, 4)}
	wanted.Round, wanted.Place, wanted.First, wanted.Points = 1, 0, 1, []int{1}
	if !same(r, wanted) {
		t.Errorf("the register is %+v", r)
	}
}

// P12.2, P12.5: TestPoints: a match is won point by point; the side 0 is the player of the lower slot.
func TestPoints(t *testing.T) {
	r := check(t, four(), "point 0: no", "point 2: no", "score: no", "server: no",
		"open 0 1 0: ok", "score: 0-0 0-0", "server: 0", "point 2: no", "point 1: ok", "score: 0-0 0-1", "server: 1", "point 0: ok", "point 0: ok", "score: 0-0 2-1", "server: 0", "point 1: ok", "point 0: ok", "point 0: 3",
		"score: no", "server: no", "point 0: no",
		"open 0 0 1: ok", "score: 0-0 0-0", "server: 1", "point 1: ok", "server: 0", "point 1: 2", "winner 0 0: 2", "winner 0 1: 3",
		"open 1 0 0: ok", "point 1: ok", "point 1: 3", "winner 1 0: 3", "open 1 0 0: no")
	wanted := beginning(four())
	wanted.Slips = []api.Slip{won(api.Played, 0, 1, 3), won(api.Played, 0, 0, 2), won(api.Played, 1, 0, 3)}
	if !same(r, wanted) {
		t.Errorf("the register is %+v", r)
	}
	r = check(t, four(), "open 0 1 1: ok", "point 1: ok", "point 0: ok", "point 2: no")
	if r.Round != 0 || r.Place != 1 || r.First != 1 || !slices.Equal(r.Points, []int{1, 0}) || len(r.Slips) > 0 {
		t.Errorf("the register is %+v", r)
	}
}

// P12.2, P12.5: TestSets: the games of each set that is over, of the set in play, and the points.
func TestSets(t *testing.T) {
	d := with(func(d *api.Desk) { d.Format = short() })
	r := check(t, d, "open 0 0 0: ok",
		times(4, "point 0: ok"), "score: 1-0 0-0", "server: 1", times(4, "point 1: ok"), "score: 1-1 0-0", "server: 0", "point 0: ok", "score: 1-1 1-0", "point 0: ok",
		"score: 2-1 0-0 0-0", "server: 1", times(4, "point 1: ok"), "point 0: ok", "score: 2-1 0-1 1-0", times(4, "point 1: ok"),
		"score: 2-1 0-2 0-0 0-0", "server: 1", "point 1: ok", "score: 2-1 0-2 0-0 0-1", "server: 0", "point 0: ok", "point 1: ok", "point 1: 8", "score: no")
	if !slices.Equal(r.Slips, []api.Slip{won(api.Played, 0, 0, 8)}) || r.Round != -1 {
		t.Errorf("the register is %+v", r)
	}
}

// P12.2: TestServer: in doubles the partners serve, too.
func TestServer(t *testing.T) {
	d := with(func(d *api.Desk) { d.Format = short(); d.Format.Doubles = true })
	check(t, d, "open 0 0 1: ok", "server: 1", times(4, "point 0: ok"), "server: 0", times(4, "point 1: ok"), "server: 3", "point 1: ok", "server: 2", "point 0: ok", "point 0: ok", "point 0: ok", "server: 2")
}

// P12.2, P12.5: TestLeave: if a side retires, or is defaulted, the other one has won the open match.
func TestLeave(t *testing.T) {
	check(t, four(), "retire 0: no", "default 0: no", "retire 2: no", "default 2: no")
	for _, x := range []struct {
		line   string
		kind   int
		winner int
		told   string
	}{
		{"retire 0", api.Retired, 4, "4"}, {"retire 1", api.Retired, 3, "3"}, {"default 0", api.Default, 4, "4"}, {"default 1", api.Default, 3, "3"},
	} {
		r := check(t, four(), "open 0 1 1: ok", "point 0: ok", "retire 2: no", "default 2: no", "score: 0-0 1-0", x.line+": "+x.told, x.line+": no", "score: no", "left: 2", "winner 0 1: "+x.told)
		wanted := beginning(four())
		wanted.Slips = []api.Slip{won(x.kind, 0, 1, x.winner)}
		if !same(r, wanted) {
			t.Errorf("behind %q the register is %+v", x.line, r)
		}
	}
}

// P12.2: TestNoMatch: with no match open there is none whose side a line can name.
func TestNoMatch(t *testing.T) {
	r := check(t, four(), "point 1: no", "retire 1: no", "default 1: no", "score: no", "server: no", "open 0 0 1: ok", "retire 0: 2", "point 0: no", "retire 0: no", "default 1: no", "left: 2")
	if len(r.Slips) != 1 || r.First != 0 {
		t.Errorf("the register is %+v", r)
	}
}
