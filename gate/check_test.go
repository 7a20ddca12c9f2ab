package gate_test

import (
	"math"
	"slices"
	"testing"

	"deuce/api"
	"deuce/gate"
)

// errorsOf checks that all functions with a queue return ErrQueue, and nothing else with it, whichever their other arguments are.
func errorsOf(t *testing.T, name string, q api.Queue) {
	t.Helper()
	check := func(function string, zero bool, e api.Errno) {
		t.Helper()
		if !zero || e != api.ErrQueue {
			t.Errorf("%s: %s: zero %v, %d", name, function, zero, e)
		}
	}
	check("Check", true, gate.Check(q))
	for _, n := range []int{1, 2, 4, 12, -1, 1000, 1441, math.MinInt, math.MaxInt} {
		l, e := gate.Enter(q, n)
		check("Enter", len(l) == 0, e)
		s, e := gate.Sure(q, n)
		check("Sure", s == api.Span{}, e)
		s, e = gate.Inside(q, n)
		check("Inside", s == api.Span{}, e)
		seats, e := gate.Enough(q, n)
		check("Enough", seats == 0, e)
	}
}

// bound is where something has a number, with the least and the greatest one that is valid.
type bound[E any] struct {
	low, high int
	set       func(e *E, n int)
}

// beyond returns numbers that are not within a bound.
func (b bound[E]) beyond() []int {
	return []int{b.low - 1, b.high + 1, b.low - 1<<32, b.high + 1<<32, math.MinInt, math.MaxInt}
}

// P1, P11.1 to P11.5: TestNumbers: each number of a queue has its bounds.
func TestNumbers(t *testing.T) {
	for name, x := range map[string]bound[api.Queue]{
		"Open":         {0, 1440, func(q *api.Queue, n int) { q.Open = n }},
		"Rate, both":   {1, 100, func(q *api.Queue, n int) { q.Rate = span(n, n) }},
		"Rate, Low":    {1, 3, func(q *api.Queue, n int) { q.Rate.Low = n }},
		"Rate, High":   {2, 100, func(q *api.Queue, n int) { q.Rate.High = n }},
		"Seats":        {0, 9999, func(q *api.Queue, n int) { q.Seats = n }},
		"low Id":       {0, 1, func(q *api.Queue, n int) { q.Groups[0].Id = n }},
		"Id":           {5, 999, func(q *api.Queue, n int) { q.Groups[2].Id = n }},
		"At":           {0, 1440, func(q *api.Queue, n int) { q.Groups[0].At = n }},
		"last At":      {0, 1440, func(q *api.Queue, n int) { q.Groups[3].At = n }},
		"At of who":    {0, 12, func(q *api.Queue, n int) { q.Groups[1].At = n }},
		"Size":         {1, 20, func(q *api.Queue, n int) { q.Groups[0].Size = n }},
		"last Size":    {1, 20, func(q *api.Queue, n int) { q.Groups[3].Size = n }},
		"Quits":        {3, 1440, func(q *api.Queue, n int) { q.Groups[1].Quits = n }},
		"Quits at 0":   {-1, 1440, func(q *api.Queue, n int) { q.Groups[0].Quits = n }},
		"below At":     {-1, -1, func(q *api.Queue, n int) { q.Groups[2].Quits = min(n, 2) }},
		"a free's At":  {0, 1440, func(q *api.Queue, n int) { q.Frees[0].At = n }},
		"last free At": {0, 1440, func(q *api.Queue, n int) { q.Frees = append(q.Frees, free(n, 1)) }},
		"Count":        {0, 9999, func(q *api.Queue, n int) { q.Frees[0].Count = n }},
		"last Count":   {0, 9999, func(q *api.Queue, n int) { q.Frees = append(q.Frees, free(1, n)) }},
	} {
		for _, n := range []int{x.low, x.high} {
			if e := gate.Check(with(func(q *api.Queue) { x.set(q, n) })); e != api.OK {
				t.Errorf("%s: Check of %d: %d", name, n, e)
			}
		}
		for _, n := range x.beyond() {
			errorsOf(t, name, with(func(q *api.Queue) { x.set(q, n) }))
		}
	}
}

// groups returns so many groups.
func groups(n int) []api.Party {
	var out []api.Party
	for id := range n {
		out = append(out, party(id, 0, 1, -1))
	}
	return out
}

// P1, P11.1 to P11.5: TestInvalid: queues of which just one thing is not valid, other than a number.
func TestInvalid(t *testing.T) {
	for name, change := range map[string]func(q *api.Queue){
		"nothing":            func(q *api.Queue) { *q = api.Queue{} },
		"a rate backwards":   func(q *api.Queue) { q.Rate = span(3, 2) },
		"an Id twice":        func(q *api.Queue) { q.Groups[3].Id = 1 },
		"an Id 0 twice":      func(q *api.Queue) { q.Groups[0].Id, q.Groups[2].Id = 0, 0 },
		"a group twice":      func(q *api.Queue) { q.Groups = append(q.Groups, q.Groups[0]) },
		"an empty group":     func(q *api.Queue) { q.Groups = append(q.Groups, api.Party{}) },
		"41 groups":          func(q *api.Queue) { q.Groups = groups(41) },
		"41 empty groups":    func(q *api.Queue) { q.Groups = make([]api.Party, 41) },
		"41 frees":           func(q *api.Queue) { q.Frees = make([]api.Free, 41) },
		"41 equal frees":     func(q *api.Queue) { q.Frees = slices.Repeat(q.Frees, 41) },
		"quits and comes":    func(q *api.Queue) { q.Groups[3].Quits = 10 },
		"one of some frees":  func(q *api.Queue) { q.Frees = []api.Free{free(1, 1), free(2, -1), free(3, 1)} },
		"one of some groups": func(q *api.Queue) { q.Groups[1].Size = 0 },
	} {
		errorsOf(t, name, with(change))
	}
}

// P11.1: TestValid: queues at the limits.
func TestValid(t *testing.T) {
	for name, change := range map[string]func(q *api.Queue){
		"the example":     func(q *api.Queue) {},
		"the largest":     func(q *api.Queue) { *q = largest() },
		"just a rate":     func(q *api.Queue) { *q = api.Queue{Rate: span(1, 1)} },
		"all rates":       func(q *api.Queue) { q.Rate = span(1, 100) },
		"no groups":       func(q *api.Queue) { q.Groups = nil },
		"no frees":        func(q *api.Queue) { q.Frees = nil },
		"40 groups":       func(q *api.Queue) { q.Groups = groups(40) },
		"40 frees":        func(q *api.Queue) { q.Frees = slices.Repeat(q.Frees, 40) },
		"equal but Ids":   func(q *api.Queue) { q.Groups = append(q.Groups, party(0, 11, 1, -1)) },
		"equal frees":     func(q *api.Queue) { q.Frees = append(q.Frees, q.Frees[0]) },
		"quits at once":   func(q *api.Queue) { q.Groups[1].Quits = 3 },
		"quits at 0":      func(q *api.Queue) { q.Groups[0].Quits = 0 },
		"frees before":    func(q *api.Queue) { q.Frees[0].At = 0 },
		"at midnight":     func(q *api.Queue) { q.Open, q.Groups = 1440, []api.Party{party(999, 1440, 20, 1440)} },
		"more than seats": func(q *api.Queue) { q.Seats, q.Frees = 0, nil },
	} {
		if e := gate.Check(with(change)); e != api.OK {
			t.Errorf("%s: Check: %d", name, e)
		}
	}
}

// P1, P11.2 to P11.5: TestArguments: then a rate is one of the queue's, a group one of its own, and a minute one of the day.
func TestArguments(t *testing.T) {
	for _, rate := range []int{1, 4, 0, -1, 100, 101, 2 + 1<<32, math.MinInt, math.MaxInt} {
		if l, e := gate.Enter(example(), rate); len(l) != 0 || e != api.ErrArg {
			t.Errorf("Enter at %d = %v, %d", rate, l, e)
		}
	}
	for _, q := range []api.Queue{example(), with(func(q *api.Queue) { q.Groups = nil })} {
		for _, id := range []int{0, 5, -1, 999, 1000, 1 + 1<<32, math.MinInt, math.MaxInt} {
			if s, e := gate.Sure(q, id); s != (api.Span{}) || e != api.ErrArg {
				t.Errorf("Sure of %d = %v, %d", id, s, e)
			}
			if n, e := gate.Enough(q, id); n != 0 || e != api.ErrArg {
				t.Errorf("Enough of %d = %d, %d", id, n, e)
			}
		}
		for _, minute := range []int{-1, 1441, 1 << 32, math.MinInt, math.MaxInt} {
			if s, e := gate.Inside(q, minute); s != (api.Span{}) || e != api.ErrArg {
				t.Errorf("Inside at %d = %v, %d", minute, s, e)
			}
		}
		for _, minute := range []int{0, 1440} {
			insideOf(t, q, minute)
		}
	}
	if l, e := gate.Enter(api.Queue{Rate: span(1, 100)}, 100); len(l) != 0 || e != api.OK {
		t.Errorf("Enter without groups = %v, %d", l, e)
	}
	zero := with(func(q *api.Queue) { q.Groups[0].Id = 0 })
	if s, e := gate.Sure(zero, 0); s != span(10, 10) || e != api.OK {
		t.Errorf("Sure of 0 = %v, %d", s, e)
	}
}

// R3: TestEmpty: an empty slice is the same as none.
func TestEmpty(t *testing.T) {
	none := with(func(q *api.Queue) { q.Frees = nil })
	empty := with(func(q *api.Queue) { q.Frees = []api.Free{} })
	equal(t, "no frees", answersOf(t, empty), answersOf(t, none))
	none.Groups, empty.Groups = nil, []api.Party{}
	equal(t, "no groups", answersOf(t, empty), answersOf(t, none))
	for _, x := range []api.Terms{{}, {Played: []int{}}} {
		for _, l := range [][]api.Ticket{nil, {}} {
			if a, n := refundOf(t, x, l); len(a) != 0 || n != 0 {
				t.Errorf("Refund = %v, Total = %d", a, n)
			}
		}
	}
}

// R4: TestMemory: no argument is changed, and no two results share memory.
func TestMemory(t *testing.T) {
	q := with(func(q *api.Queue) {
		q.Frees = append(q.Frees, free(9, 1), free(20, 1), free(0, 1))
		slices.Reverse(q.Groups)
	})
	q.Groups, q.Frees = slices.Grow(q.Groups, 9), slices.Grow(q.Frees, 9)
	x, l := terms(), slices.Grow(tickets(), 9)
	slices.Reverse(l)
	before, played, sold := copied(q), slices.Clone(x.Played), slices.Clone(l)
	first, refunds := enterOf(t, q, 2), refundsOf(t, x, l)
	answersOf(t, q)
	behind := q.Groups[:5][4] == api.Party{} && q.Frees[:5][4] == api.Free{} && l[:5][4] == api.Ticket{}
	if !same(q, before) || !slices.Equal(x.Played, played) || !slices.Equal(l, sold) || !behind {
		t.Errorf("the arguments are %+v, %v, %v now", q, x, l)
	}
	first[0], refunds[0] = 77, 77
	if second, again := enterOf(t, q, 2), refundsOf(t, x, l); second[0] == 77 || again[0] == 77 || !same(q, before) || !slices.Equal(l, sold) {
		t.Errorf("%v, %v behind a changed result", second, again)
	}
}
