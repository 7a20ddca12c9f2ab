package card_test

import (
	"math"
	"slices"
	"testing"

	"deuce/api"
	"deuce/card"
)

// invalidMarks is marks of which just one thing is not valid.
func invalidMarks() map[string]api.Note {
	return map[string]api.Note{
		"nothing":           {},
		"kind below":        {Kind: -1},
		"kind above":        {Kind: 8},
		"noted side below":  noted(-2),
		"noted side above":  noted(2),
		"noted with A":      {Kind: api.Noted, Side: 1, Pair: pair(1, 0)},
		"noted with B":      {Kind: api.Noted, Side: -1, Pair: pair(0, 1)},
		"missed below":      missed(-1, 2),
		"missed both below": missed(-1, -1),
		"missed above":      missed(0, 31),
		"missed both above": missed(31, 31),
		"missed crossed":    missed(2, 1),
		"missed with side":  {Kind: api.Missed, Side: 1, Pair: pair(1, 2)},
		"missed without":    {Kind: api.Missed, Side: -1, Pair: pair(1, 2)},
		"points A below":    points(-1, 0),
		"points B below":    points(0, -1),
		"points A above":    points(41, 40),
		"points B above":    points(40, 41),
		"points with side":  {Kind: api.Points, Side: 1, Pair: pair(1, 0)},
		"games A below":     games(-1, 1),
		"games B below":     games(1, -1),
		"games A above":     games(41, 0),
		"games B above":     games(0, 41),
		"games with side":   {Kind: api.Games, Side: -1, Pair: pair(1, 0)},
		"sets A below":      sets(-1, 0),
		"sets B below":      sets(0, -1),
		"sets A above":      sets(41, 0),
		"sets B above":      sets(0, 41),
		"sets with side":    {Kind: api.Sets, Side: 1, Pair: pair(1, 0)},
		"serves side below": serves(-1),
		"serves side above": serves(2),
		"serves with pair":  {Kind: api.Serves, Pair: pair(0, 1)},
		"over side below":   over(-1),
		"over side above":   over(2),
		"over with pair":    {Kind: api.Over, Side: 1, Pair: pair(2, 0)},
		"extreme kind":      {Kind: math.MinInt},
		"extreme side":      noted(math.MaxInt),
		"extreme missed":    missed(math.MinInt, math.MaxInt),
		"extreme points":    points(math.MaxInt, math.MinInt),
	}
}

// validMarks is marks at the edges of what is valid.
func validMarks() []api.Note {
	return []api.Note{
		noted(-1), noted(0), noted(1), missed(0, 0), missed(0, 30), missed(30, 30), points(0, 0), points(40, 40), points(0, 40),
		games(0, 0), games(40, 0), games(40, 40), sets(0, 0), sets(0, 40), sets(40, 40), serves(0), serves(1), over(0), over(1),
	}
}

// invalidCards is cards of which just one thing is not valid.
func invalidCards() map[string]api.Card {
	format := func(change func(f *api.Format)) api.Card {
		c := example(5)
		change(&c.Format)
		return c
	}
	out := map[string]api.Card{
		"nothing":           {},
		"no sets":           format(func(f *api.Format) { f.Sets = 0 }),
		"many sets":         format(func(f *api.Format) { f.Sets = 4 }),
		"a tie-break late":  format(func(f *api.Format) { f.Tie = 3 }),
		"last to above":     format(func(f *api.Format) { f.LastTo = 16 }),
		"balls below":       format(func(f *api.Format) { f.Then = -1 }),
		"first below":       of(-2),
		"first above":       of(2),
		"first extreme":     of(math.MaxInt),
		"31 marks":          of(0, times(31, points(0, 0))...),
		"31 missed of none": of(-1, times(31, missed(0, 0))...),
		"601 points":        of(0, append(times(20, missed(0, 30)), noted(0))...),
		"601 missed":        of(0, append(times(20, missed(30, 30)), missed(0, 1))...),
		"605 points":        of(0, append(times(5, noted(-1)), times(20, missed(0, 30))...)...),
		"630 points":        of(0, times(21, missed(0, 30))...),
	}
	for name, x := range invalidMarks() {
		out["just "+name] = of(-1, x)
		out["first "+name] = with(example(5), 0, x)
		out["last "+name] = more(example(5), x)
	}
	return out
}

// P3.1: TestCheck: cards are valid up to each limit, and not beyond it.
func TestCheck(t *testing.T) {
	for name, c := range invalidCards() {
		if e := card.Check(c); e != api.ErrCard {
			t.Errorf("%s: Check = %d", name, e)
		}
	}
	for name, c := range map[string]api.Card{
		"the example":       example(5),
		"a wrong one":       wrong(),
		"no marks":          of(-1),
		"empty marks":       {Format: short(), Marks: []api.Note{}},
		"first 0":           of(0),
		"first 1":           of(1, noted(0)),
		"30 marks":          of(0, times(30, noted(-1))...),
		"600 points":        of(0, times(20, missed(0, 30))...),
		"600 points, noted": of(0, append(times(19, missed(30, 30)), append(times(10, noted(1)), missed(0, 20))...)...),
		"600 missed":        of(0, times(30, missed(20, 20))...),
		"wrong marks":       of(0, points(0, 40), games(40, 40), sets(40, 40), over(0), over(1)),
		"all kinds":         of(-1, validMarks()...),
	} {
		if e := card.Check(c); e != api.OK {
			t.Errorf("%s: Check = %d", name, e)
		}
	}
	for _, x := range validMarks() {
		if e := card.Check(of(1, noted(1), x)); e != api.OK {
			t.Errorf("%v: Check = %d", x, e)
		}
	}
	for name, f := range formats() {
		if e := card.Check(api.Card{Format: f}); e != api.OK {
			t.Errorf("%s: Check = %d", name, e)
		}
	}
}

// checkAll checks that each function but Check, First and Fewest has an error, and nothing else with it.
func checkAll(t *testing.T, name string, c api.Card, want api.Errno) {
	t.Helper()
	if l, e := card.Boards(c); len(l) != 0 || e != want {
		t.Errorf("%s: Boards = %v, %d", name, l, e)
	}
	if first, l, e := card.Show(c); first != 0 || len(l) != 0 || e != want {
		t.Errorf("%s: Show = %d, %v, %d", name, first, l, e)
	}
	if s, e := card.Count(c); s != (api.Span{}) || e != want {
		t.Errorf("%s: Count = %v, %d", name, s, e)
	}
	if is, e := card.Sure(c, serves(0)); is || e != want {
		t.Errorf("%s: Sure = %v, %d", name, is, e)
	}
}

// P1, P3.1 to P3.7: TestCardFirst: the error of a card comes before any other one, and nothing else with it.
func TestCardFirst(t *testing.T) {
	for name, c := range invalidCards() {
		checkAll(t, name, c, api.ErrCard)
		if n, e := card.First(c); n != 0 || e != api.ErrCard {
			t.Errorf("%s: First = %d, %d", name, n, e)
		}
		if n, e := card.Fewest(c); n != 0 || e != api.ErrCard {
			t.Errorf("%s: Fewest = %d, %d", name, n, e)
		}
		if is, e := card.Sure(c, noted(0)); is || e != api.ErrCard {
			t.Errorf("%s: Sure of a point = %v, %d", name, is, e)
		}
	}
	// Neither possible nor valid.
	checkAll(t, "wrong, and too long", of(0, times(31, over(0))...), api.ErrCard)
	checkAll(t, "wrong, and not valid", more(wrong(), missed(0, 31)), api.ErrCard)
}

// P3.6: TestSureThen: a further mark that is none comes behind an invalid card, and before an impossible one.
func TestSureThen(t *testing.T) {
	bad := invalidMarks()
	bad["a point of 0"], bad["a point of nobody"], bad["missed none"], bad["missed some"] = noted(0), noted(-1), missed(0, 0), missed(1, 2)
	for name, x := range bad {
		for i, c := range []api.Card{example(5), of(-1), wrong()} {
			if is, e := card.Sure(c, x); is || e != api.ErrArg {
				t.Errorf("%s: %d: Sure = %v, %d", name, i, is, e)
			}
		}
	}
	for _, x := range validMarks() {
		if x.Kind < api.Points {
			continue
		}
		if is, e := card.Sure(wrong(), x); is || e != api.ErrNone {
			t.Errorf("%v: Sure = %v, %d", x, is, e)
		}
		if _, e := card.Sure(example(5), x); e != api.OK {
			t.Errorf("%v: Sure: %d", x, e)
		}
	}
}

// P3.3 to P3.6: TestNoMatch: without a match there is nothing to say but which mark is the first wrong one, and how many are.
func TestNoMatch(t *testing.T) {
	for name, x := range map[string]struct {
		c             api.Card
		first, fewest int
	}{
		"the example":            {wrong(), 4, 1},
		"the wrong server":       {of(0, serves(1)), 0, 1},
		"the end at once":        {of(-1, over(0)), 0, 1},
		"behind the end":         {of(0, append(times(16, noted(0)), noted(0))...), 16, 1},
		"missed behind it":       {of(0, append(times(16, noted(0)), missed(1, 2))...), 16, 1},
		"a set that is none":     {of(-1, missed(0, 30), sets(0, 3)), 1, 1},
		"games that are none":    {of(-1, missed(0, 30), games(3, 0)), 1, 1},
		"points that are none":   {of(-1, missed(0, 30), points(5, 3)), 1, 1},
		"too few points missed":  {of(0, noted(1), missed(2, 3), games(1, 0)), 2, 1},
		"too many points missed": {of(0, noted(1), missed(8, 8), games(1, 0)), 2, 1},
		"everything":             {of(0, points(1, 1), games(1, 1), sets(1, 1), over(1), serves(1)), 0, 5},
	} {
		checkAll(t, name, x.c, api.ErrNone)
		if n, e := card.First(x.c); n != x.first || e != api.OK {
			t.Errorf("%s: First = %d, %d", name, n, e)
		}
		if n, e := card.Fewest(x.c); n != x.fewest || e != api.OK {
			t.Errorf("%s: Fewest = %d, %d", name, n, e)
		}
	}
}

// R4: TestMemory: no card is changed, and no result shares memory with it or with another one.
func TestMemory(t *testing.T) {
	c := of(-1, missed(0, 20), noted(-1), serves(1))
	before := slices.Clone(c.Marks)
	l, _ := card.Boards(c)
	m, _ := card.Boards(c)
	_, points, _ := card.Show(c)
	_, again, _ := card.Show(c)
	card.First(c)
	card.Count(c)
	card.Sure(c, serves(1))
	card.Fewest(c)
	if !slices.Equal(c.Marks, before) {
		t.Fatalf("the marks are %v", c.Marks)
	}
	if !slices.Equal(points, again) || !sameBoards(l, m) {
		t.Fatalf("other results: %v, %v; %v, %v", points, again, l, m)
	}
	for i := range l {
		for k := range l[i].Sets {
			l[i].Sets[k] = pair(-1, -1)
		}
		l[i].Sets = append(l[i].Sets, pair(-2, -2))
		for k := i + 1; k < len(l); k++ {
			if !sameBoard(l[k], m[k]) {
				t.Fatalf("the board %d shares memory with the board %d", i, k)
			}
		}
	}
}
