package referee_test

import (
	"fmt"
	"slices"
	"testing"

	"deuce/api"
)

// P12.2: TestHour: the hour never goes back, and is at most the last one.
func TestHour(t *testing.T) {
	r := check(t, example(), "hour 0: ok", "hour 5: ok", "hour 4: no", "hour 0: no", "hour 5: ok", "hour 6: ok", "hour 10000: no", "hour 5: no")
	if r.Hour != 6 {
		t.Errorf("the hour is %d", r.Hour)
	}
	r = check(t, example(), "hour 9999: ok", "hour 10000: no", "hour 9998: no", "hour 9999: ok")
	if r.Hour != 9999 {
		t.Errorf("the hour is %d", r.Hour)
	}
}

// P12.2: TestNotices: each line is a notice of its kind, with the number of those before, and the hour; those that are refused are none.
func TestNotices(t *testing.T) {
	r := check(t, example(), "enter 5 20: ok", "enter 1000 1: no", "enter 999 9999: ok", "hour 3: ok", "enter 1 10000: no", "guard 4 0: no", "guard 4 1: ok", "guard 4 10000: no", "guard 1000 1: no", "enter 0 0: ok", "wild 1000: no", "wild 7: ok", "hour 11: ok", "quit 1000: no", "quit 999: ok", "sign 1000: no", "sign 0: ok", "enter 5 20: ok")
	wanted := []api.Notice{
		{Id: 0, Hour: 0, Kind: api.Enter, Player: 5, Rank: 20}, {Id: 1, Hour: 0, Kind: api.Enter, Player: 999, Rank: 9999},
		{Id: 2, Hour: 3, Kind: api.Guard, Player: 4, Rank: 1}, {Id: 3, Hour: 3, Kind: api.Enter}, {Id: 4, Hour: 3, Kind: api.Wild, Player: 7},
		{Id: 5, Hour: 11, Kind: api.Quits, Player: 999}, {Id: 6, Hour: 11, Kind: api.Sign}, {Id: 7, Hour: 11, Kind: api.Enter, Player: 5, Rank: 20},
	}
	if !slices.Equal(r.Notices, wanted) {
		t.Errorf("the notices are %v, not %v", r.Notices, wanted)
	}
}

// P12.2, P12.6: TestLists: the example of the chapter 5.
func TestLists(t *testing.T) {
	enter := []string{"hour 1: ok", "enter 7 50: ok", "hour 2: ok", "enter 8 20: ok", "hour 3: ok", "guard 9 10: ok", "hour 4: ok", "guard 6 30: ok", "hour 5: ok", "enter 5 70: ok", "hour 6: ok", "enter 4 0: ok"}
	check(t, example(), "main: none", "wilds: none", "out: none", enter,
		"main: 9 8 7", "wilds: none", "out: 6 5 4", "stand 9: 1 1", "stand 7: 1 3", "stand 6: 3 1", "stand 4: 3 3", "stand 3: 0 0", "stand 1000: no", "stand 999: 0 0",
		"hour 11: ok", "enter 3 1: ok", "out: 6 5 4",
		"hour 12: ok", "wild 7: ok", "main: 9 8 5", "wilds: 7", "out: 6 4", "stand 6: 3 1", "stand 7: 2 1", "stand 3: 0 0", "wild 6: ok", "wilds: 7",
		"hour 15: ok", "quit 8: ok", "main: 9 5 4", "out: 6", "stand 8: 0 0",
		"hour 20: ok", "main: 9 5 4", "hour 21: ok", "sign 4: ok", "hour 22: ok", "quit 5: ok", "main: 9 4", "out: 6", "sign 6: ok", "main: 9 4", "quit 9: ok", "main: 4 6", "out: none", "quit 7: ok", "wilds: none")
}

// P12.2: TestManyNotices: there are at most 60 notices; whatever another one is, it is one too many.
func TestManyNotices(t *testing.T) {
	var lines []string
	for player := range api.MaxNotices - 1 {
		lines = append(lines, fmt.Sprintf("enter %d 1: ok", player))
	}
	more := []string{"enter 1 2: full", "enter 1000 1: full", "guard 1 0: full", "guard 1 1: full", "wild 1: full", "quit 0: full", "quit 1000: full", "sign 1: full"}
	r := check(t, example(), lines, "guard 1 0: no", "quit 0: ok", more, "hour 1: ok", "sign 1: full", "main: 1 2 3", "stand 59: 0 0", "stand 58: 3 55")
	if len(r.Notices) != api.MaxNotices || r.Notices[59] != (api.Notice{Id: 59, Kind: api.Quits}) || r.Hour != 1 {
		t.Errorf("the notices are %v at %d", r.Notices, r.Hour)
	}
}
