package referee_test

import (
	"fmt"
	"slices"
	"testing"

	"deuce/api"
)

// P12.2: TestWalk: a walkover is one of a match that is ready, and not open, for one of its players.
func TestWalk(t *testing.T) {
	r := check(t, four(), "walk 0 0 3: no", "walk 0 0 0: no", "walk 1 0 1: no", "walk 0 2 1: no", "walk 2 0 1: no",
		"open 0 0 0: ok", "walk 0 0 1: no", "walk 0 0 2: no", "walk 0 1 4: ok", "walk 0 1 4: no", "walk 0 1 3: no", "walk 1 0 4: no", "point 0: ok", "score: 0-0 1-0", "point 0: 1", "walk 0 0 1: no", "walk 1 0 2: no", "walk 1 0 1: ok", "left: 0")
	wanted := []api.Slip{won(api.Walkover, 0, 1, 4), won(api.Played, 0, 0, 1), won(api.Walkover, 1, 0, 1)}
	if !slices.Equal(r.Slips, wanted) {
		t.Errorf("the slips are %v", r.Slips)
	}
	// The place of the open match is that of another one in its round, and its round that of another one of its place.
	check(t, drawn(numbered(3)...), "walk 0 0 1: ok", "walk 0 1 3: ok", "open 1 0 0: ok", "walk 1 0 1: no", "walk 0 2 5: ok", "walk 0 3 7: ok", "walk 1 1 7: ok")
	check(t, drawn(numbered(3)...), "walk 0 2 5: ok", "walk 0 3 7: ok", "open 0 1 0: ok", "walk 1 1 5: ok", "walk 0 1 3: no", "walk 0 0 2: ok")
	// A match with a bye is not ready.
	check(t, drawn(1, api.Bye, 3, 4), "walk 0 0 1: no", "walk 0 1 3: ok", "walk 1 0 3: ok")
}

// P12.2: TestLucky: a lucky loser takes the slot of a player, while no match is open.
func TestLucky(t *testing.T) {
	r := check(t, four(), "lucky 3 9 4: ok", "lucky 3 8 4: no", "lucky 3 9 3: no", "lucky 4 8 1: no", "lucky 0 1000 1: no", "lucky 0 2 1: no", "lucky 0 8 1000: no", "lucky 0 4 1: no", "lucky 0 8 2: no",
		"open 0 0 0: ok", "lucky 2 8 3: no", "retire 0: 2", "lucky 2 8 3: ok", "lucky 1 7 2: no", "lucky 0 7 1: ok", "lucky 2 6 8: ok", "may 0 1: 6 9", "may 1 0: 2 6 9", "open 0 1 0: ok", "default 0: 9", "winner 0 1: 9", "lucky 3 5 9: no")
	wanted := []api.Slip{lucky(3, 9, 4), won(api.Retired, 0, 0, 2), lucky(2, 8, 3), lucky(0, 7, 1), lucky(2, 6, 8), won(api.Default, 0, 1, 9)}
	if !slices.Equal(r.Slips, wanted) {
		t.Errorf("the slips are %v", r.Slips)
	}
}

// P12.2: TestLuckyTwice: a slip that there is already has no error, as equal slips count once (7).
func TestLuckyTwice(t *testing.T) {
	r := check(t, four(), "lucky 3 9 4: ok", "lucky 3 9 4: ok", "may 0 1: 3 9")
	if !slices.Equal(r.Slips, []api.Slip{lucky(3, 9, 4), lucky(3, 9, 4)}) {
		t.Errorf("the slips are %v", r.Slips)
	}
}

// P12.2: TestAsked: who has won, who can win, and how many matches are left.
func TestAsked(t *testing.T) {
	check(t, drawn(9, api.Bye, 30, 4), "left: 2", "winner 0 0: 9", "winner 0 1: none", "winner 1 0: none", "winner 0 2: no", "winner 1 1: no", "winner 2 0: no",
		"may 0 0: 9", "may 0 1: 4 30", "may 1 0: 4 9 30", "may 0 2: no", "may 1 1: no", "may 2 0: no",
		"open 0 1 0: ok", "left: 2", "winner 0 1: none", "may 0 1: 4 30", "point 1: ok", "point 1: 4", "left: 1", "winner 0 1: 4", "may 0 1: 4", "may 1 0: 4 9", "winner 1 0: none",
		"walk 1 0 9: ok", "left: 0", "winner 1 0: 9", "may 1 0: 9")
}

// comers returns lines by which so many lucky losers come into the slot of the player 4, one after the other, and the last one of them.
func comers(n int) (lines []string, last int) {
	last = 4
	for i := range n {
		lines = append(lines, fmt.Sprintf("lucky 3 %d %d: ok", 100+i, last))
		last = 100 + i
	}
	return lines, last
}

// P12.2: TestManySlips: there are at most 60 slips; what would be refused otherwise is refused first, but for a lucky loser.
func TestManySlips(t *testing.T) {
	lines, last := comers(api.MaxSlips)
	r := check(t, four(), lines, "lucky 3 999 159: full", "lucky 3 999 4: full", "lucky 9 999 999999: full", "walk 0 0 1: full", "walk 0 0 3: no", "walk 1 0 1: no", fmt.Sprintf("walk 0 1 %d: full", last))
	if len(r.Slips) != api.MaxSlips || r.Round != -1 {
		t.Errorf("the register is %+v", r)
	}
	r = check(t, four(), lines, "open 0 0 1: ok", "lucky 3 999 159: no", "walk 0 0 1: no", "retire 0: full", "default 1: full", "retire 2: no", "default 2: no", "point 1: ok", "point 2: no", "point 1: full", "score: 0-0 0-1", "point 0: ok", "retire 1: full", "left: 3", "winner 0 0: none")
	if len(r.Slips) != api.MaxSlips || r.Round != 0 || r.Place != 0 || r.First != 1 || !slices.Equal(r.Points, []int{1, 0}) {
		t.Errorf("the register is %+v", r)
	}
	for line, slip := range map[string]api.Slip{
		"walk 0 0 2: ok": won(api.Walkover, 0, 0, 2), "point 0: 1": won(api.Played, 0, 0, 1), "retire 1: 1": won(api.Retired, 0, 0, 1), "default 0: 2": won(api.Default, 0, 0, 2), "lucky 0 9 1: ok": lucky(0, 9, 1),
	} {
		lines, _ := comers(api.MaxSlips - 1)
		if slip.Kind != api.Walkover && slip.Kind != api.Lucky {
			lines = append(lines, "open 0 0 0: ok", "point 0: ok")
		}
		r := check(t, four(), lines, line)
		if len(r.Slips) != api.MaxSlips || r.Slips[api.MaxSlips-1] != slip || r.Round != -1 {
			t.Errorf("behind %q the register is %+v", line, r)
		}
	}
}
