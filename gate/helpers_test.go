package gate_test

import (
	"cmp"
	"math/rand/v2"
	"reflect"
	"slices"
	"testing"

	"deuce/api"
	"deuce/gate"
)

func span(low, high int) api.Span { return api.Span{Low: low, High: high} }

func party(id, at, size, quits int) api.Party {
	return api.Party{Id: id, At: at, Size: size, Quits: quits}
}

func free(at, count int) api.Free { return api.Free{At: at, Count: count} }

func ticket(id, price, day, paid int) api.Ticket {
	return api.Ticket{Id: id, Price: price, Day: day, Paid: paid}
}

// example is G of the chapter's examples.
func example() api.Queue {
	return api.Queue{
		Open:   10,
		Rate:   span(2, 3),
		Seats:  5,
		Groups: []api.Party{party(1, 0, 2, -1), party(2, 3, 4, 12), party(3, 3, 2, -1), party(4, 11, 1, -1)},
		Frees:  []api.Free{free(13, 3)},
	}
}

// with returns the example with something changed.
func with(change func(q *api.Queue)) api.Queue {
	q := example()
	change(&q)
	return q
}

// terms is X of the chapter's examples.
func terms() api.Terms { return api.Terms{Short: 60, Long: 120, Played: []int{30, 90, 200}} }

// tickets is L of the chapter's examples.
func tickets() []api.Ticket {
	return []api.Ticket{ticket(1, 1001, 0, 0), ticket(2, 1001, 1, 0), ticket(3, 1001, 1, 600), ticket(4, 1001, 2, 0)}
}

// largest returns a queue in which all is as much as it can be: 40 groups of 20 people, for whom 40 times the most seats become free, at all rates.
func largest() api.Queue {
	q := api.Queue{Rate: span(1, api.MaxPass), Seats: api.MaxSeats}
	for i := range api.MaxGroups {
		q.Groups = append(q.Groups, party(api.MaxPlayer-i, 0, api.MaxParty, api.MaxMinute))
		q.Frees = append(q.Frees, free(api.MaxMinute, api.MaxSeats))
	}
	return q
}

// copied returns a queue that shares no memory with another one.
func copied(q api.Queue) api.Queue {
	q.Groups, q.Frees = slices.Clone(q.Groups), slices.Clone(q.Frees)
	return q
}

// same reports whether two queues are equal: nil and empty slices are.
func same(a, b api.Queue) bool {
	return a.Open == b.Open && a.Rate == b.Rate && a.Seats == b.Seats && slices.Equal(a.Groups, b.Groups) && slices.Equal(a.Frees, b.Frees)
}

// enterBy returns the minute in which each group is in at a rate, by the chapter's words, minute by minute and one person after the other.
func enterBy(q api.Queue, rate int) []int {
	minutes := slices.Repeat([]int{-1}, len(q.Groups))
	seats, passing, left := q.Seats, -1, 0
	var waiting []int
	for minute := range api.MaxMinute + 1 {
		for _, f := range q.Frees {
			if f.At == minute {
				seats += f.Count
			}
		}
		waiting = slices.DeleteFunc(waiting, func(group int) bool {
			return q.Groups[group].Quits != -1 && q.Groups[group].Quits <= minute
		})
		var joining []int
		for group, p := range q.Groups {
			if p.At == minute && p.Quits != minute {
				joining = append(joining, group)
			}
		}
		slices.SortFunc(joining, func(a, b int) int { return cmp.Compare(q.Groups[a].Id, q.Groups[b].Id) })
		waiting = append(waiting, joining...)
		for person := 0; minute >= q.Open && person < rate; person++ {
			if left == 0 {
				if len(waiting) == 0 || q.Groups[waiting[0]].Size > seats {
					break
				}
				passing, waiting = waiting[0], waiting[1:]
				left = q.Groups[passing].Size
				seats -= left
			}
			if left--; left == 0 {
				minutes[passing] = minute
			}
		}
	}
	return minutes
}

// allBy returns the minutes of enterBy for each rate.
func allBy(q api.Queue) [][]int {
	var out [][]int
	for rate := q.Rate.Low; rate <= q.Rate.High; rate++ {
		out = append(out, enterBy(q, rate))
	}
	return out
}

// number is a number, or an error.
type number struct {
	n int
	e api.Errno
}

// spanned is a span, or an error.
type spanned struct {
	s api.Span
	e api.Errno
}

// answers is what all functions tell of a queue: by groups' Ids, and by minutes.
type answers struct {
	enter  []map[int]int
	sure   map[int]spanned
	enough map[int]number
	inside map[int]api.Span
}

// enterOf returns the minutes of all groups of a valid queue at a rate.
func enterOf(t *testing.T, q api.Queue, rate int) []int {
	t.Helper()
	l, e := gate.Enter(q, rate)
	if e != api.OK || len(l) != len(q.Groups) {
		t.Fatalf("Enter at %d = %v, %d", rate, l, e)
	}
	return l
}

// insideOf returns how many people are in up to a minute.
func insideOf(t *testing.T, q api.Queue, minute int) api.Span {
	t.Helper()
	s, e := gate.Inside(q, minute)
	if e != api.OK {
		t.Fatalf("Inside at %d = %v, %d", minute, s, e)
	}
	return s
}

// answersOf returns what all functions tell of a valid queue, at all minutes before and behind which something changes.
func answersOf(t *testing.T, q api.Queue) answers {
	t.Helper()
	if e := gate.Check(q); e != api.OK {
		t.Fatalf("Check: %d", e)
	}
	a := answers{sure: map[int]spanned{}, enough: map[int]number{}, inside: map[int]api.Span{}}
	for rate := q.Rate.Low; rate <= q.Rate.High; rate++ {
		byId := map[int]int{}
		for group, minute := range enterOf(t, q, rate) {
			byId[q.Groups[group].Id] = minute
		}
		a.enter = append(a.enter, byId)
	}
	for _, p := range q.Groups {
		s, e := gate.Sure(q, p.Id)
		n, f := gate.Enough(q, p.Id)
		a.sure[p.Id], a.enough[p.Id] = spanned{s, e}, number{n, f}
	}
	for _, minute := range minutesOf(a.enter) {
		a.inside[minute] = insideOf(t, q, minute)
	}
	return a
}

// minutesOf returns the first and the last minute, those in which somebody is in, and those before.
func minutesOf(enter []map[int]int) []int {
	out := []int{0, api.MaxMinute}
	for _, l := range enter {
		for _, minute := range l {
			out = append(out, max(minute, 0), max(minute-1, 0))
		}
	}
	return out
}

// equal checks that answers are the same.
func equal(t *testing.T, name string, got, wanted answers) {
	t.Helper()
	if !reflect.DeepEqual(got, wanted) {
		t.Errorf("%s: %+v\ninstead of %+v", name, got, wanted)
	}
}

// peopleOf returns how many people are in all groups.
func peopleOf(q api.Queue) int {
	n := 0
	for _, p := range q.Groups {
		n += p.Size
	}
	return n
}

// inUpTo returns how many people are in up to a minute, if groups are in these minutes.
func inUpTo(q api.Queue, minutes []int, minute int) int {
	n := 0
	for group, in := range minutes {
		if in != -1 && in <= minute {
			n += q.Groups[group].Size
		}
	}
	return n
}

// random returns a source of the same numbers for the same seed.
func random(seed uint64) *rand.Rand { return rand.New(rand.NewPCG(seed, 11)) }

// randomQueue returns a queue of up to so many groups within few minutes, so that many things come together; some are at the end of the day.
func randomQueue(r *rand.Rand, groups int) api.Queue {
	width := 1 + r.IntN(30)
	first := []int{0, r.IntN(1200), api.MaxMinute - width}[r.IntN(3)]
	minute := func() int { return min(first+r.IntN(width+1), api.MaxMinute) }
	low := 1 + r.IntN(1+r.IntN(6))
	q := api.Queue{Open: minute(), Rate: span(low, low+r.IntN(4)), Seats: r.IntN(1 + 3*groups)}
	if r.IntN(3) == 0 {
		q.Open = r.IntN(first + 1)
	}
	ids, patient, most := r.Perm(api.MaxPlayer+1), r.IntN(5), 1+r.IntN(api.MaxParty)
	for i := range r.IntN(groups + 1) {
		p := party(ids[i], minute(), 1+r.IntN(most), -1)
		if r.IntN(4) >= patient {
			p.Quits = min(p.At+r.IntN(1+r.IntN(20)), api.MaxMinute)
		}
		q.Groups = append(q.Groups, p)
	}
	for range r.IntN(6) {
		q.Frees = append(q.Frees, free(minute(), r.IntN(1+r.IntN(2*most))))
	}
	return q
}

// eachQueue calls a function with random queues.
func eachQueue(t *testing.T, times uint64, groups int, do func(t *testing.T, r *rand.Rand, q api.Queue)) {
	t.Helper()
	for seed := range times {
		r := random(seed)
		q := randomQueue(r, groups)
		do(t, r, q)
		if t.Failed() {
			t.Fatalf("seed %d: %+v", seed, q)
		}
	}
}

// shuffled returns a list in another order.
func shuffled[E any](r *rand.Rand, l []E) []E {
	out := slices.Clone(l)
	r.Shuffle(len(out), func(i, j int) { out[i], out[j] = out[j], out[i] })
	return out
}
