package gate_test

import (
	"math/rand/v2"
	"slices"
	"testing"

	"deuce/api"
	"deuce/gate"
)

// eachRate calls a function with each rate of random queues, and the minutes of all groups at it.
func eachRate(t *testing.T, times uint64, groups int, do func(t *testing.T, q api.Queue, rate int, minutes []int)) {
	t.Helper()
	eachQueue(t, times, groups, func(t *testing.T, r *rand.Rand, q api.Queue) {
		for rate := q.Rate.Low; rate <= q.Rate.High; rate++ {
			do(t, q, rate, enterOf(t, q, rate))
		}
	})
}

// seatsUpTo returns how many seats were free up to a minute.
func seatsUpTo(q api.Queue, minute int) int {
	n := q.Seats
	for _, f := range q.Frees {
		if f.At <= minute {
			n += f.Count
		}
	}
	return n
}

// P11.8: TestSeats: at no minute are more people in than seats were free up to it; nobody is in before Open, before arriving, or after giving up.
func TestSeats(t *testing.T) {
	full, patient := 0, 0
	eachRate(t, 800, 12, func(t *testing.T, q api.Queue, rate int, minutes []int) {
		for group, minute := range minutes {
			if minute == -1 {
				continue
			}
			p := q.Groups[group]
			people, seats := inUpTo(q, minutes, minute), seatsUpTo(q, minute)
			if people > seats {
				t.Errorf("%d people are in at %d, with %d seats", people, minute, seats)
			}
			count(&full, people == seats)
			if minute < q.Open || minute < p.At || minute > api.MaxMinute {
				t.Errorf("%v is in at %d", p, minute)
			}
			// Its first one has passed before it gives up, in the worst case as the last one of that minute.
			if p.Quits != -1 && minute > p.Quits-1+(p.Size-1+rate-1)/rate {
				t.Errorf("%v is in at %d, at the rate %d", p, minute, rate)
			}
			count(&patient, p.Quits != -1 && minute >= p.Quits)
		}
	})
	if full < 200 || patient < 200 {
		t.Errorf("only %d take the last seat, %d pass while they would give up", full, patient)
	}
}

// standsFirst reports whether a group stands before another one.
func standsFirst(a, b api.Party) bool { return a.At < b.At || a.At == b.At && a.Id < b.Id }

// P11.9: TestInTurn: of two groups that both are in the one that stands first is not in later.
func TestInTurn(t *testing.T) {
	pairs := 0
	eachRate(t, 400, 12, func(t *testing.T, q api.Queue, rate int, minutes []int) {
		for a, first := range minutes {
			for b, second := range minutes {
				if first == -1 || second == -1 || !standsFirst(q.Groups[a], q.Groups[b]) {
					continue
				}
				pairs++
				if first > second {
					t.Errorf("%v is in at %d, %v at %d", q.Groups[a], first, q.Groups[b], second)
				}
			}
		}
	})
	if pairs < 5000 {
		t.Errorf("only %d pairs", pairs)
	}
}

// P11.10: TestGates: in the minutes from Open on to any minute not more people are in than the rate lets pass.
func TestGates(t *testing.T) {
	busy := 0
	eachRate(t, 400, 20, func(t *testing.T, q api.Queue, rate int, minutes []int) {
		for minute := range api.MaxMinute + 1 {
			people, most := inUpTo(q, minutes, minute), rate*max(0, minute-q.Open+1)
			if people > most {
				t.Errorf("%d people are in at %d, at the rate %d", people, minute, rate)
			}
			count(&busy, people == most && people > 0)
		}
	})
	if busy < 200 {
		t.Errorf("the gates are busy in only %d minutes", busy)
	}
}

// P11.11: TestEnoughSeats: with seats and minutes for all, each group that does not give up is in; so Enough is at most what is missing then.
func TestEnoughSeats(t *testing.T) {
	patient, least := 0, 0
	eachQueue(t, 300, 8, func(t *testing.T, r *rand.Rand, q api.Queue) {
		people := peopleOf(q)
		last := api.MaxMinute + 1 - people
		q.Open = min(q.Open, last)
		for i := range q.Groups {
			p := &q.Groups[i]
			p.At = min(p.At, last)
		}
		if r.IntN(3) == 0 {
			q.Frees = nil
		}
		for _, p := range q.Groups {
			if p.Quits != -1 {
				continue
			}
			n, e := gate.Enough(q, p.Id)
			if e != api.OK || n > max(0, people-q.Seats) {
				t.Errorf("Enough of %v = %d, %d, with %d people", p, n, e, people)
			}
			count(&least, n == people-q.Seats)
		}
		q.Seats = people
		for group, p := range q.Groups {
			if p.Quits == -1 {
				patient++
				for rate := q.Rate.Low; rate <= q.Rate.High; rate++ {
					if l := enterOf(t, q, rate); l[group] == -1 {
						t.Errorf("%v is not in at the rate %d: %v", p, rate, l)
					}
				}
			}
		}
	})
	if patient < 500 || least < 20 {
		t.Errorf("only %d never give up, and %d need all seats", patient, least)
	}
}

// P11.12: TestWithin: at each rate each group is in within Sure, and as many people are in as Inside says.
func TestWithin(t *testing.T) {
	sure, wide := 0, 0
	eachQueue(t, 200, 12, func(t *testing.T, r *rand.Rand, q api.Queue) {
		for rate := q.Rate.Low; rate <= q.Rate.High; rate++ {
			minutes := enterOf(t, q, rate)
			for group, p := range q.Groups {
				s, e := gate.Sure(q, p.Id)
				if e == api.OK && (minutes[group] < s.Low || minutes[group] > s.High) {
					t.Errorf("%v is in at %d, Sure = %v", p, minutes[group], s)
				}
				if minutes[group] == -1 && e != api.ErrNone {
					t.Errorf("%v is not in, Sure = %v, %d", p, s, e)
				}
				count(&sure, e == api.OK)
			}
			for _, minute := range append(slices.Clone(minutes), r.IntN(api.MaxMinute+1)) {
				if minute == -1 {
					continue
				}
				s := insideOf(t, q, minute)
				if n := inUpTo(q, minutes, minute); n < s.Low || n > s.High {
					t.Errorf("%d are in up to %d, Inside = %v", n, minute, s)
				}
				count(&wide, s.Low < s.High)
			}
		}
	})
	if sure < 500 || wide < 500 {
		t.Errorf("only %d are surely in, %d are not exact", sure, wide)
	}
}

// P11.14: TestAnyOrder: the order of groups, frees and tickets changes nothing but the order of what is returned.
func TestAnyOrder(t *testing.T) {
	eachQueue(t, 150, 8, func(t *testing.T, r *rand.Rand, q api.Queue) {
		other := q
		other.Groups, other.Frees = shuffled(r, q.Groups), shuffled(r, q.Frees)
		equal(t, "in another order", answersOf(t, other), answersOf(t, q))
	})
	eachSale(t, 100, func(t *testing.T, r *rand.Rand, s sale) {
		a, n := refundOf(t, s.x, s.l)
		byId := map[int]int{}
		for i, k := range s.l {
			byId[k.Id] = a[i]
		}
		other := shuffled(r, s.l)
		b, m := refundOf(t, s.x, other)
		for i, k := range other {
			if b[i] != byId[k.Id] || m != n {
				t.Errorf("Refund of %v = %d, %d in all, in another order", k, b[i], m)
			}
		}
	})
}
