package gate_test

import (
	"math/rand/v2"
	"slices"
	"testing"

	"deuce/api"
	"deuce/gate"
)

// crowd returns a queue with so many seats, in which a group of 3 stands before one of 2, and gives up at 5.
func crowd(seats int) api.Queue {
	return api.Queue{Rate: span(1, 2), Seats: seats, Groups: []api.Party{party(1, 0, 3, 5), party(2, 0, 2, -1)}}
}

// P11.3: TestSure: the first and the last minute over all rates, unless a group is never in at some rate.
func TestSure(t *testing.T) {
	for name, x := range map[string]struct {
		q    api.Queue
		id   int
		want spanned
	}{
		"the example, 1":          {example(), 1, spanned{span(10, 10), api.OK}},
		"the example, 2":          {example(), 2, spanned{e: api.ErrNone}},
		"the example, 3":          {example(), 3, spanned{span(12, 12), api.OK}},
		"the example, 4":          {example(), 4, spanned{span(12, 13), api.OK}},
		"one rate":                {with(func(q *api.Queue) { q.Rate = span(2, 2) }), 4, spanned{span(13, 13), api.OK}},
		"many rates":              {with(func(q *api.Queue) { q.Rate = span(1, 100) }), 4, spanned{span(12, 14), api.OK}},
		"some are too slow":       {with(func(q *api.Queue) { q.Seats, q.Rate, q.Groups[1].Quits = 9, span(1, 100), 11 }), 2, spanned{e: api.ErrNone}},
		"two rates":               {crowd(9), 2, spanned{span(2, 4), api.OK}},
		"a slow one is not":       {with(func(q *api.Queue) { q.Open, q.Rate = 1440, span(1, 2) }), 1, spanned{e: api.ErrNone}},
		"the last minute":         {with(func(q *api.Queue) { q.Open, q.Rate = 1439, span(1, 2) }), 1, spanned{span(1439, 1440), api.OK}},
		"a fast one is not":       {crowdBehind(), 3, spanned{e: api.ErrNone}},
		"in the middle it is not": {middle(1, 4), 4, spanned{e: api.ErrNone}},
		"just there it is not":    {middle(2, 2), 4, spanned{e: api.ErrNone}},
		"at one end it is":        {middle(1, 1), 4, spanned{span(6, 6), api.OK}},
		"at the other end, too":   {middle(3, 4), 4, spanned{span(6, 6), api.OK}},
	} {
		if s, e := gate.Sure(x.q, x.id); (spanned{s, e}) != x.want {
			t.Errorf("%s: Sure = %v, %d", name, s, e)
		}
	}
}

// middle returns a queue in which the group 4 is in but at the rate 2: there the group 3 takes the seats; at a less one it is gone before, and at a greater one the group 2 is in, so that there are too few seats for it.
func middle(low, high int) api.Queue {
	return api.Queue{Rate: span(low, high), Seats: 9, Groups: []api.Party{party(1, 0, 6, -1), party(2, 0, 1, 3), party(3, 0, 3, 6), party(4, 0, 1, -1)}}
}

// P11.4: TestInside: how many people are in, up to and with a minute; those of a group that is passing still are not.
func TestInside(t *testing.T) {
	big := api.Queue{Open: 3, Rate: span(2, 3), Seats: 20, Groups: []api.Party{party(1, 0, 5, -1), party(2, 4, 4, -1)}}
	for name, x := range map[string]struct {
		q      api.Queue
		minute int
		want   api.Span
	}{
		"the example, 12":     {example(), 12, span(4, 5)},
		"the example, 9":      {example(), 9, span(0, 0)},
		"the example, 0":      {example(), 0, span(0, 0)},
		"the example, 10":     {example(), 10, span(2, 2)},
		"the example, 11":     {example(), 11, span(2, 2)},
		"the example, 13":     {example(), 13, span(5, 5)},
		"the example, at end": {example(), 1440, span(5, 5)},
		"no groups":           {api.Queue{Rate: span(1, 9)}, 1440, span(0, 0)},
		"passing, 3":          {big, 3, span(0, 0)},
		"passing, 4":          {big, 4, span(0, 5)},
		"passing, 5":          {big, 5, span(5, 9)},
		"passing, 6":          {big, 6, span(5, 9)},
		"passing, 7":          {big, 7, span(9, 9)},
		"fewer are in faster": {crowdBehind(), 9, span(2, 3)},
		"all of the largest":  {largest(), 1440, span(800, 800)},
		"some of the largest": {largest(), 7, span(0, 800)},
		"first of largest":    {largest(), 0, span(0, 100)},
	} {
		if s, e := gate.Inside(x.q, x.minute); s != x.want || e != api.OK {
			t.Errorf("%s: Inside = %v, %d", name, s, e)
		}
	}
}

// crowdBehind returns a queue in which two people are in at the greater rate, and three at the less one.
func crowdBehind() api.Queue {
	return api.Queue{Rate: span(1, 2), Seats: 3, Groups: []api.Party{party(1, 0, 1, -1), party(2, 0, 1, 1), party(3, 2, 2, -1)}}
}

// P11.5: TestEnough: the fewest further seats; more of them may be too many again.
func TestEnough(t *testing.T) {
	late := with(func(q *api.Queue) { q.Open = 1440 })
	never := with(func(q *api.Queue) { q.Frees, q.Groups[1].Quits = nil, -1 })
	empty := largest()
	empty.Seats, empty.Frees = 0, nil
	for name, x := range map[string]struct {
		q    api.Queue
		id   int
		want number
	}{
		"the example, 1":         {example(), 1, number{0, api.OK}},
		"the example, 2":         {example(), 2, number{1, api.OK}},
		"the example, 3":         {example(), 3, number{0, api.OK}},
		"the example, 4":         {example(), 4, number{0, api.OK}},
		"all must be in":         {never, 4, number{4, api.OK}},
		"all before must be":     {never, 3, number{3, api.OK}},
		"it must be in":          {never, 2, number{1, api.OK}},
		"some are too late":      {late, 4, number{0, api.ErrNone}},
		"one is not too late":    {late, 1, number{0, api.OK}},
		"it waits in vain":       {with(func(q *api.Queue) { q.Groups[1].Quits = 10 }), 2, number{0, api.ErrNone}},
		"no seats":               {crowd(0), 2, number{2, api.OK}},
		"a seat":                 {crowd(1), 2, number{1, api.OK}},
		"just its seats":         {crowd(2), 2, number{0, api.OK}},
		"a seat too many":        {crowd(3), 2, number{2, api.OK}},
		"two seats too many":     {crowd(4), 2, number{1, api.OK}},
		"seats for all":          {crowd(5), 2, number{0, api.OK}},
		"seats for more":         {crowd(6), 2, number{0, api.OK}},
		"the most seats":         {crowd(api.MaxSeats), 2, number{0, api.OK}},
		"the last one of 800":    {empty, 999, number{800, api.OK}},
		"the first one of 800":   {empty, 960, number{20, api.OK}},
		"the tenth one of 800":   {empty, 969, number{200, api.OK}},
		"at one rate it is not":  {middle(1, 4), 4, number{2, api.OK}},
		"at the others it is":    {middle(3, 4), 4, number{0, api.OK}},
		"with a seat less it is": {with(func(q *api.Queue) { *q = middle(1, 4); q.Seats = 8 }), 4, number{0, api.OK}},
		"frees that come late":   {with(func(q *api.Queue) { q.Seats, q.Frees = 0, []api.Free{free(20, 9)} }), 3, number{0, api.OK}},
		"frees that are too few": {with(func(q *api.Queue) { q.Seats, q.Frees = 0, []api.Free{free(1440, 1)} }), 3, number{3, api.OK}},
	} {
		if n, e := gate.Enough(x.q, x.id); (number{n, e}) != x.want {
			t.Errorf("%s: Enough = %d, %d", name, n, e)
		}
	}
}

// sureBy returns the span of a group's minutes, if each rate has these.
func sureBy(all [][]int, group int) spanned {
	var minutes []int
	for _, l := range all {
		if l[group] == -1 {
			return spanned{e: api.ErrNone}
		}
		minutes = append(minutes, l[group])
	}
	return spanned{s: span(slices.Min(minutes), slices.Max(minutes))}
}

// enoughBy returns the fewest further seats for each group, of all numbers up to some more than there are people, and of the greatest one.
func enoughBy(q api.Queue) []number {
	out := slices.Repeat([]number{{e: api.ErrNone}}, len(q.Groups))
	tried := []int{api.MaxSeats}
	for n := range peopleOf(q) + 3 {
		tried = append(tried, n)
	}
	slices.Sort(tried)
	for _, n := range tried {
		more := q
		more.Seats += n
		all := allBy(more)
		for group := range out {
			if out[group].e != api.OK && sureBy(all, group).e == api.OK {
				out[group] = number{n: n}
			}
		}
	}
	return out
}

// P11.3 to P11.5: TestByWords: all answers about random queues, from what happens at all rates by the chapter's words.
func TestByWords(t *testing.T) {
	spans, nones, further, vain := 0, 0, 0, 0
	eachQueue(t, 300, 4, func(t *testing.T, r *rand.Rand, q api.Queue) {
		for i := range q.Groups {
			q.Groups[i].Size = 1 + q.Groups[i].Size%5
		}
		q.Seats %= 8
		all, enough, a := allBy(q), enoughBy(q), answersOf(t, q)
		for group, p := range q.Groups {
			sure := sureBy(all, group)
			if a.sure[p.Id] != sure || a.enough[p.Id] != enough[group] {
				t.Errorf("Sure of %d = %v instead of %v, Enough = %v instead of %v", p.Id, a.sure[p.Id], sure, a.enough[p.Id], enough[group])
			}
			count(&spans, sure.s.Low < sure.s.High)
			count(&nones, sure.e != api.OK)
			count(&further, enough[group].n > 0)
			count(&vain, enough[group].e != api.OK)
		}
		for minute, s := range a.inside {
			var people []int
			for _, l := range all {
				people = append(people, inUpTo(q, l, minute))
			}
			if s != span(slices.Min(people), slices.Max(people)) {
				t.Errorf("Inside at %d = %v, but people are %v", minute, s, people)
			}
		}
	})
	if spans < 50 || nones < 50 || further < 50 || vain < 50 {
		t.Errorf("only %d have several minutes, %d none, %d need seats, %d in vain", spans, nones, further, vain)
	}
}

// count counts what is so.
func count(n *int, so bool) {
	if so {
		*n++
	}
}
