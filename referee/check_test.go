package referee_test

import (
	"math"
	"reflect"
	"slices"
	"strings"
	"testing"

	"deuce/api"
	"deuce/referee"
)

// invalid checks that a desk is not valid: Run returns ErrDesk then, and nothing with it, whatever the script is.
func invalid(t *testing.T, name string, d api.Desk) {
	t.Helper()
	if e := referee.Check(d); e != api.ErrDesk {
		t.Errorf("%s: Check: %d", name, e)
	}
	for _, script := range [][]string{nil, {"main"}, make([]string, api.MaxScript+1)} {
		answers, r, e := referee.Run(d, script)
		if len(answers) > 0 || !reflect.DeepEqual(r, api.Register{}) || e != api.ErrDesk {
			t.Errorf("%s: Run = %q, %v, %d", name, answers, r, e)
		}
	}
}

// valid checks that a desk is valid.
func valid(t *testing.T, name string, d api.Desk) {
	t.Helper()
	if e := referee.Check(d); e != api.OK {
		t.Errorf("%s: Check: %d", name, e)
	}
	if _, r, e := referee.Run(d, nil); e != api.OK || !same(r, beginning(d)) {
		t.Errorf("%s: Run = %v, %d", name, r, e)
	}
}

// P1, P12.1, P12.2: TestNumbers: each number of a desk has its bounds.
func TestNumbers(t *testing.T) {
	for name, x := range map[string]struct {
		low, high int
		set       func(d *api.Desk, n int)
	}{
		"Places":       {1, 32, func(d *api.Desk, n int) { d.Field.Places = n }},
		"Wilds":        {0, 32, func(d *api.Desk, n int) { d.Field.Wilds = n }},
		"Guards":       {0, 32, func(d *api.Desk, n int) { d.Field.Guards = n }},
		"Close":        {0, 20, func(d *api.Desk, n int) { d.Field.Close = n }},
		"Freeze":       {10, 9999, func(d *api.Desk, n int) { d.Field.Freeze = n }},
		"Rounds":       {1, 1, func(d *api.Desk, n int) { d.Tree.Rounds = n }},
		"slot":         {-1, 7, func(d *api.Desk, n int) { d.Tree.Slots[0] = n }},
		"last slot":    {8, 999, func(d *api.Desk, n int) { d.Tree.Slots[1] = n }},
		"Sets":         {1, 3, func(d *api.Desk, n int) { d.Format.Sets = n }},
		"Games":        {1, 8, func(d *api.Desk, n int) { d.Format.Games, d.Format.LastTie = n, -1 }},
		"Tie":          {-1, 1, func(d *api.Desk, n int) { d.Format.Tie = n }},
		"To":           {1, 15, func(d *api.Desk, n int) { d.Format.To = n }},
		"LastTie":      {-1, 1, func(d *api.Desk, n int) { d.Format.LastTie = n }},
		"LastTo":       {1, 15, func(d *api.Desk, n int) { d.Format.LastTo = n }},
		"First":        {0, 20, func(d *api.Desk, n int) { d.Format.First = n }},
		"Then":         {0, 20, func(d *api.Desk, n int) { d.Format.Then = n }},
		"Low":          {0, 700, func(d *api.Desk, n int) { d.Days[0][0].Low = n }},
		"High":         {600, 1440, func(d *api.Desk, n int) { d.Days[0][0].High = n }},
		"Rest":         {0, 600, func(d *api.Desk, n int) { d.Rest = n }},
		"least":        {1, 60, func(d *api.Desk, n int) { d.Stages[0].Length.Low = n }},
		"greatest":     {30, 600, func(d *api.Desk, n int) { d.Stages[0].Length.High = n }},
		"Due":          {0, 2, func(d *api.Desk, n int) { d.Stages[0].Due = n }},
		"Due of a day": {0, 2, func(d *api.Desk, n int) { d.Days, d.Stages[0].Due = append(d.Days, d.Days[0]), n }},
	} {
		for _, n := range []int{x.low, x.high} {
			valid(t, name, with(func(d *api.Desk) { x.set(d, n) }))
		}
		for _, n := range []int{x.low - 1, x.high + 1, x.low - 1<<32, x.high + 1<<32, math.MinInt, math.MaxInt} {
			invalid(t, name, with(func(d *api.Desk) { x.set(d, n) }))
		}
	}
}

// P12.1: TestParts: a desk is valid if all its parts are.
func TestParts(t *testing.T) {
	courts := func(n int) []api.Span { return slices.Repeat([]api.Span{span(600, 600)}, n) }
	for name, d := range map[string]api.Desk{
		"the example":      example(),
		"four players":     four(),
		"a bye":            drawn(1, api.Bye, 2, 3),
		"six matches":      drawn(1, api.Bye, 2, 3, 4, 5, 6, 7),
		"seven matches":    drawn(numbered(3)...),
		"all players":      drawn(numbered(5)...),
		"three days":       with(func(d *api.Desk) { d.Days = [][]api.Span{courts(1), courts(1), courts(1)} }),
		"three courts":     with(func(d *api.Desk) { d.Days = [][]api.Span{courts(3), courts(3)} }),
		"a late stage":     with(func(d *api.Desk) { d.Stages[0].Due = 2 }),
		"a stage too long": with(func(d *api.Desk) { d.Stages[0].Length = span(600, 600) }),
	} {
		valid(t, name, d)
	}
	for name, d := range map[string]api.Desk{
		"nothing":              {},
		"no slots":             with(func(d *api.Desk) { d.Tree.Slots = nil }),
		"a slot less":          with(func(d *api.Desk) { d.Tree.Slots = d.Tree.Slots[:1] }),
		"a slot more":          with(func(d *api.Desk) { d.Tree.Slots = append(d.Tree.Slots, 9) }),
		"a player twice":       drawn(1, 2, 3, 1),
		"two byes":             drawn(1, 2, api.Bye, api.Bye),
		"six rounds":           drawn(numbered(6)...),
		"no days":              with(func(d *api.Desk) { d.Days = nil }),
		"four days":            with(func(d *api.Desk) { d.Days = [][]api.Span{courts(1), courts(1), courts(1), courts(1)} }),
		"no courts":            with(func(d *api.Desk) { d.Days = [][]api.Span{nil} }),
		"four courts":          with(func(d *api.Desk) { d.Days = [][]api.Span{courts(4)} }),
		"one court less":       with(func(d *api.Desk) { d.Days = [][]api.Span{courts(2), courts(1)} }),
		"an empty court":       with(func(d *api.Desk) { d.Days = [][]api.Span{courts(2), {span(600, 700), span(700, 699)}} }),
		"no stages":            with(func(d *api.Desk) { d.Stages = nil }),
		"a stage more":         with(func(d *api.Desk) { d.Stages = stages(2) }),
		"a stage less":         with(func(d *api.Desk) { d.Tree, d.Stages = four().Tree, stages(1) }),
		"a wrong last stage":   with(func(d *api.Desk) { d.Tree, d.Stages = four().Tree, append(stages(1), api.Stage{}) }),
		"many matches, and no": with(func(d *api.Desk) { d.Tree, d.Stages = drawn(numbered(3)...).Tree, stages(2) }),
		"many, and a bad one":  with(func(d *api.Desk) { d.Tree, d.Stages = drawn(numbered(3)...).Tree, append(stages(2), api.Stage{}) }),
	} {
		invalid(t, name, d)
	}
}

// P12.2: TestScripts: a script has at most 80 lines, whatever they are.
func TestScripts(t *testing.T) {
	for _, line := range []string{"", "left", "\x00", strings.Repeat(" ", 1<<20), strings.Repeat("left ", 1<<18)} {
		answers, r := run(t, example(), slices.Repeat([]string{line}, api.MaxScript))
		wanted := "?"
		if line == "left" {
			wanted = "1"
		}
		if slices.ContainsFunc(answers, func(answer string) bool { return answer != wanted }) || !same(r, beginning(example())) {
			t.Errorf("Run of %.9q = %q, %v", line, answers, r)
		}
		answers, r, e := referee.Run(example(), slices.Repeat([]string{line}, api.MaxScript+1))
		if len(answers) > 0 || !reflect.DeepEqual(r, api.Register{}) || e != api.ErrMany {
			t.Errorf("Run of too many %.9q = %q, %v, %d", line, answers, r, e)
		}
	}
	if answers, r := run(t, four(), nil); len(answers) > 0 || !same(r, beginning(four())) {
		t.Errorf("Run of no lines = %q, %v", answers, r)
	}
}

// P12.2: TestMemory: no desk and no script is changed, and a register shares no memory with a desk, or with another register.
func TestMemory(t *testing.T) {
	d := four()
	spare := append(d.Days, []api.Span{span(1, 2)})
	d.Days = spare[:2]
	before, script := copied(d), []string{"enter 1 2", "walk 0 0 1", "open 0 1 1", "point 0", "close 1 1 100 200", "close 0 0 300 400"}
	lines := slices.Clone(script)
	_, first := run(t, d, script)
	_, second := run(t, d, script)
	wanted := copiedRegister(first)
	if !reflect.DeepEqual(copied(d), before) || !slices.Equal(lines, script) || !slices.Equal(spare[2], []api.Span{span(1, 2)}) {
		t.Errorf("%v, %q have been changed", d, script)
	}
	if !same(first, second) || first.Days[1][1] != span(100, 200) || first.Days[0][0] != span(300, 400) || first.Days[0][1] != span(610, 710) {
		t.Errorf("Run = %v, then %v", first, second)
	}
	first.Notices[0].Player, first.Slips[0].Player, first.Points[0], first.Days[0][0], first.Days[1] = 9, 9, 9, span(9, 9), nil
	if !reflect.DeepEqual(copied(d), before) || !same(second, wanted) {
		t.Errorf("%v, %v have been changed", d, second)
	}
	_, r := run(t, d, nil)
	r.Days[0][0] = span(9, 9)
	if !reflect.DeepEqual(copied(d), before) {
		t.Errorf("%v has been changed by a script without lines", d)
	}
}
