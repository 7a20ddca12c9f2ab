package entry_test

import (
	"math"
	"slices"
	"testing"

	"deuce/api"
	"deuce/entry"
)

// withField returns F with something changed.
func withField(change func(f *api.Field)) api.Field {
	f := field()
	change(&f)
	return f
}

// withNotice returns L, and one more notice.
func withNotice(id, hour, kind, player, rank int) []api.Notice {
	return example(api.Notice{Id: id, Hour: hour, Kind: kind, Player: player, Rank: rank})
}

// signs returns so many different notices.
func signs(n int) []api.Notice {
	var out []api.Notice
	for i := range n {
		out = append(out, sign(i, 0, 0))
	}
	return out
}

// invalidFields is fields of which just one thing is not valid.
func invalidFields() map[string]api.Field {
	return map[string]api.Field{
		"nothing of a field":     {},
		"no places":              withField(func(f *api.Field) { f.Places = 0 }),
		"places above":           withField(func(f *api.Field) { f.Places = 33 }),
		"wilds below":            withField(func(f *api.Field) { f.Wilds = -1 }),
		"wilds above":            withField(func(f *api.Field) { f.Wilds = 33 }),
		"guards below":           withField(func(f *api.Field) { f.Guards = -1 }),
		"guards above":           withField(func(f *api.Field) { f.Guards = 33 }),
		"close below":            withField(func(f *api.Field) { f.Close = -1 }),
		"close above":            withField(func(f *api.Field) { f.Close, f.Freeze = 10000, 10000 }),
		"freeze above":           withField(func(f *api.Field) { f.Freeze = 10000 }),
		"freeze before close":    withField(func(f *api.Field) { f.Freeze = 9 }),
		"freeze before an early": withField(func(f *api.Field) { f.Close, f.Freeze = 0, -1 }),
	}
}

// invalidNotices is notices of which just one thing is not valid.
func invalidNotices() map[string][]api.Notice {
	return map[string][]api.Notice{
		"nothing of a notice":   {{}},
		"too many":              signs(61),
		"too many equal ones":   slices.Repeat(signs(1), 61),
		"Id below":              withNotice(-1, 0, api.Sign, 1, 0),
		"Id above":              withNotice(1000, 0, api.Sign, 1, 0),
		"hour below":            withNotice(50, -1, api.Sign, 1, 0),
		"hour above":            withNotice(50, 10000, api.Sign, 1, 0),
		"kind below":            withNotice(50, 0, 0, 1, 0),
		"kind below, ranked":    withNotice(50, 0, 0, 1, 1),
		"kind above":            withNotice(50, 0, 6, 1, 0),
		"kind above, ranked":    withNotice(50, 0, 6, 1, 1),
		"negative kind":         withNotice(50, 0, -1, 1, 0),
		"player below":          withNotice(50, 0, api.Sign, -1, 0),
		"player above":          withNotice(50, 0, api.Sign, 1000, 0),
		"rank below":            withNotice(50, 0, api.Enter, 1, -1),
		"rank above":            withNotice(50, 0, api.Enter, 1, 10000),
		"protected, no rank":    withNotice(50, 0, api.Guard, 1, 0),
		"protected, rank below": withNotice(50, 0, api.Guard, 1, -1),
		"protected, rank above": withNotice(50, 0, api.Guard, 1, 10000),
		"a wild card's rank":    withNotice(50, 0, api.Wild, 1, 1),
		"who quits, ranked":     withNotice(50, 0, api.Quits, 1, 1),
		"who signs in, ranked":  withNotice(50, 0, api.Sign, 1, 1),
		"a wild card below":     withNotice(50, 0, api.Wild, 1, -1),
		"another hour":          example(enter(0, 2, 7, 50)),
		"another kind":          example(guard(0, 1, 7, 50)),
		"another player":        example(enter(0, 1, 6, 50)),
		"another rank":          example(enter(0, 1, 7, 51)),
		"equal ones between":    append(example(example()...), enter(0, 1, 7, 0)),
		"late enough for all":   example(sign(9, 9999, 4)),
	}
}

// With this hour, or player, errorsOf does not call the functions that have no player, or no hour: they do not return the error of one.
const anyHour, anyPlayer = 19, 8

// errorsOf checks that all functions return an error, and nothing else with it.
func errorsOf(t *testing.T, name string, f api.Field, l []api.Notice, hour, player int, want api.Errno) {
	t.Helper()
	check := func(function string, zero bool, e api.Errno) {
		t.Helper()
		if !zero || e != want {
			t.Errorf("%s: %s: zero %v, %d instead of %d", name, function, zero, e, want)
		}
	}
	where, number, e := entry.Stand(f, l, hour, player)
	check("Stand", where == 0 && number == 0, e)
	needs, e := entry.Needs(f, l, hour, player)
	check("Needs", needs == 0, e)
	if hour != anyHour {
		list, e := entry.List(f, l, hour)
		check("List", same(list, api.Entries{}), e)
		cut, e := entry.Cut(f, l, hour)
		check("Cut", cut == 0, e)
	}
	if player != anyPlayer {
		when, e := entry.When(f, l, player)
		check("When", when == 0, e)
	}
}

// P1, P5.1: TestInvalid: the error of a field comes first, then that of notices.
func TestInvalid(t *testing.T) {
	for name, f := range invalidFields() {
		for other, l := range invalidNotices() {
			if e := entry.Check(f, l); e != api.ErrField {
				t.Errorf("%s, %s: Check = %d", name, other, e)
			}
			errorsOf(t, name+", "+other, f, l, -1, -1, api.ErrField)
		}
		if e := entry.Check(f, example()); e != api.ErrField {
			t.Errorf("%s: Check = %d", name, e)
		}
		errorsOf(t, name, f, example(), 10, 7, api.ErrField)
		errorsOf(t, name, f, nil, 10000, 1000, api.ErrField)
	}
	for name, l := range invalidNotices() {
		for range 2 {
			if e := entry.Check(field(), l); e != api.ErrNotice {
				t.Errorf("%s: Check = %d", name, e)
			}
			errorsOf(t, name, field(), l, 0, 7, api.ErrNotice)
			errorsOf(t, name, field(), l, -1, 1000, api.ErrNotice)
			slices.Reverse(l)
		}
	}
}

// P5.1: TestValid: fields and notices at the limits.
func TestValid(t *testing.T) {
	for name, f := range map[string]api.Field{
		"F":         field(),
		"the least": {Places: 1},
		"the most":  {Places: 32, Wilds: 32, Guards: 32, Close: 9999, Freeze: 9999},
		"no close":  {Places: 1, Freeze: 9999},
		"one hour":  {Places: 32, Close: 7, Freeze: 7},
	} {
		for other, l := range map[string][]api.Notice{
			"L":               example(),
			"none":            nil,
			"the least":       {enter(0, 0, 0, 0), guard(1, 0, 0, 1), wild(2, 0, 0), quits(3, 0, 0), sign(4, 0, 0)},
			"the most":        {enter(999, 9999, 999, 9999), guard(998, 9999, 999, 9999), wild(997, 9999, 999), quits(996, 9999, 999), sign(995, 9999, 999)},
			"as many as can":  signs(60),
			"60 equal ones":   slices.Repeat(example()[:1], 60),
			"equal ones":      example(example()...),
			"the same but Id": example(enter(50, 1, 7, 50)),
		} {
			if e := entry.Check(f, l); e != api.OK {
				t.Errorf("%s, %s: Check = %d", name, other, e)
			}
			if _, e := entry.List(f, l, 9999); e != api.OK {
				t.Errorf("%s, %s: List: %d", name, other, e)
			}
		}
	}
}

// P1, P5.2 to P5.6: TestArguments: which hours and players there are.
func TestArguments(t *testing.T) {
	for _, n := range []int{-1, 10000, math.MinInt, math.MaxInt} {
		errorsOf(t, "hour", field(), example(), n, anyPlayer, api.ErrArg)
		errorsOf(t, "hour, and nobody in", field(), nil, n, anyPlayer, api.ErrArg)
		errorsOf(t, "hour and player", field(), example(), n, n, api.ErrArg)
	}
	for _, n := range []int{-1, 1000, math.MinInt, math.MaxInt} {
		errorsOf(t, "player", field(), example(), anyHour, n, api.ErrArg)
	}
	for _, n := range []int{0, 9999} {
		if where, _, e := entry.Stand(field(), example(), n, 0); where != 0 || e != api.OK {
			t.Errorf("Stand at %d = %d, %d", n, where, e)
		}
		if where, _, e := entry.Stand(field(), example(), n, 999); where != 0 || e != api.OK {
			t.Errorf("Stand at %d = %d, %d", n, where, e)
		}
		if _, e := entry.List(field(), example(), n); e != api.OK {
			t.Errorf("List at %d: %d", n, e)
		}
	}
	if n, e := entry.When(field(), []api.Notice{enter(0, 0, 0, 1), enter(1, 10, 999, 1)}, 999); n != 10 || e != api.OK {
		t.Errorf("When = %d, %d", n, e)
	}
}

// P1: TestExtremes: each number can be anything.
func TestExtremes(t *testing.T) {
	for _, n := range []int{math.MinInt, math.MinInt + 1, -1 << 32, 1 << 32, 1<<32 + 1, 1 << 62, math.MaxInt} {
		for i, change := range []func(f *api.Field){
			func(f *api.Field) { f.Places = n },
			func(f *api.Field) { f.Wilds = n },
			func(f *api.Field) { f.Guards = n },
			func(f *api.Field) { f.Close = n },
			func(f *api.Field) { f.Freeze = n },
			func(f *api.Field) { f.Close, f.Freeze = n, n },
		} {
			f := withField(change)
			if e := entry.Check(f, nil); e != api.ErrField {
				t.Errorf("%d, %d: Check = %d", n, i, e)
			}
			errorsOf(t, "field", f, example(), n, n, api.ErrField)
		}
		for i, l := range [][]api.Notice{
			withNotice(n, 0, api.Sign, 0, 0), withNotice(50, n, api.Sign, 0, 0), withNotice(50, 0, n, 0, 0),
			withNotice(50, 0, api.Sign, n, 0), withNotice(50, 0, api.Enter, 0, n), withNotice(n, n, n, n, n),
		} {
			if e := entry.Check(field(), l); e != api.ErrNotice {
				t.Errorf("%d, %d: Check = %d", n, i, e)
			}
			errorsOf(t, "notices", field(), l, n, n, api.ErrNotice)
		}
	}
}

// R3: TestEmpty: an empty slice is the same as none.
func TestEmpty(t *testing.T) {
	for i, l := range [][]api.Notice{nil, {}} {
		if e := entry.Check(field(), l); e != api.OK {
			t.Errorf("%d: Check = %d", i, e)
		}
		for _, hour := range []int{0, 20, 21, 9999} {
			if list := listOf(t, field(), l, hour); !same(list, api.Entries{Open: 3}) {
				t.Errorf("%d: List at %d = %v", i, hour, list)
			}
			if where, number, e := entry.Stand(field(), l, hour, 7); where != 0 || number != 0 || e != api.OK {
				t.Errorf("%d: Stand at %d = %d, %d, %d", i, hour, where, number, e)
			}
			errorsOfNone := func(function string, n int, e api.Errno) {
				if n != 0 || e != api.ErrNone {
					t.Errorf("%d: %s at %d = %d, %d", i, function, hour, n, e)
				}
			}
			n, e := entry.Cut(field(), l, hour)
			errorsOfNone("Cut", n, e)
			n, e = entry.Needs(field(), l, hour, 7)
			errorsOfNone("Needs", n, e)
			n, e = entry.When(field(), l, 7)
			errorsOfNone("When", n, e)
		}
	}
}

// R4: TestMemory: no argument is changed, and no result shares memory with another one.
func TestMemory(t *testing.T) {
	l := append(make([]api.Notice, 0, 30), example(example()...)...)
	slices.Reverse(l)
	before := slices.Clone(l)
	first := listOf(t, field(), l, 12)
	entry.Check(field(), l)
	entry.Stand(field(), l, 22, 6)
	entry.Cut(field(), l, 22)
	entry.Needs(field(), l, 12, 4)
	entry.When(field(), l, 4)
	behind := l[len(l):cap(l)]
	if !slices.Equal(l, before) || slices.ContainsFunc(behind, func(n api.Notice) bool { return n != api.Notice{} }) {
		t.Errorf("the notices are %v now, with %v behind", l, behind)
	}
	want := api.Entries{Main: []int{9, 8, 5}, Wilds: []int{7}, Out: []int{6, 4}}
	if !same(first, want) {
		t.Errorf("List = %v", first)
	}
	main, wilds := slices.Clone(first.Main), slices.Clone(first.Wilds)
	out := append(first.Out, 99)
	out[0] = 98
	if !slices.Equal(first.Main, main) || !slices.Equal(first.Wilds, wilds) {
		t.Errorf("the list is %v behind changed alternates", first)
	}
	first.Main[0], first.Wilds[0] = 97, 96
	if again := listOf(t, field(), l, 12); !same(again, want) {
		t.Errorf("List = %v behind a changed list", again)
	}
}
