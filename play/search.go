package play

import (
	"slices"

	"deuce/api"
)

// jobs is some of the jobs of a program.
type jobs [api.MaxJobs]bool

// state is how far an order of play goes: its last day, the jobs that do not wait for a seat any more, and how many moves are left.
type state struct {
	day
	done  jobs
	moves int
}

// search looks for an order of play that fits. If there are old seats, each other seat is a move. seen is the states from which it went on.
type search struct {
	program
	old  []api.Seat
	seen map[state]bool
}

// find returns an order of play that fits, without some jobs.
func (p program) find(without jobs) (order []api.Seat, fits bool) { return p.near(nil, 0, without) }

// near returns an order of play that fits, without some jobs, with so many moves from old seats at most.
func (p program) near(old []api.Seat, moves int, without jobs) (order []api.Seat, fits bool) {
	s := search{p, old, map[state]bool{}}
	return s.finish(state{p.dayOf(0), without, moves}, nil)
}

// finish returns an order of play that fits, and begins with the order that led to a state.
func (s *search) finish(st state, order []api.Seat) (whole []api.Seat, fits bool) {
	if !slices.Contains(st.done[:len(s.Jobs)], false) {
		return order, true
	}
	if s.seen[st] {
		return nil, false
	}
	s.seen[st] = true
next:
	for job, j := range s.Jobs {
		if st.done[job] {
			continue
		}
		for _, other := range j.After {
			if !st.done[other] {
				continue next
			}
		}
		for court := range s.Days[st.number] {
			seat := api.Seat{Job: job, Day: st.number, Court: court}
			behind, fits := s.take(st, seat)
			if !fits {
				continue
			}
			if whole, fits := s.finish(behind, append(order, seat)); fits {
				return whole, true
			}
		}
	}
	if st.number == len(s.Days)-1 {
		return nil, false
	}
	return s.finish(state{s.dayOf(st.number + 1), st.done, st.moves}, order)
}

// take returns the state behind one more seat, and whether it fits.
func (s *search) take(st state, seat api.Seat) (behind state, fits bool) {
	j := s.Jobs[seat.Job]
	begin := s.begin(st.day, seat.Job, seat.Court)
	end := begin + j.Length.High
	if j.Due < seat.Day || end > s.Days[seat.Day][seat.Court].High {
		return state{}, false
	}
	if s.old != nil && !slices.Contains(s.old, seat) {
		if st.moves == 0 {
			return state{}, false
		}
		st.moves--
	}
	st.done[seat.Job] = true
	st.put(seat.Job, seat.Court, end)
	s.forget(&st, begin)
	return st, true
}

// forget makes states equal from which the same follows, when the last job begins. It is enough to look for orders in which no job begins before the one before it: any order that fits is one if it is sorted by these minutes, as they stay the same then. So courts may count as busy up to the last of them, and ends matter only if they keep jobs that wait from beginning later than that.
func (s *search) forget(st *state, begin int) {
	for court := range s.Days[st.number] {
		st.free[court] = max(st.free[court], begin)
	}
	for job, end := range st.ends {
		if end+s.Rest <= begin || !s.awaited(job, st.done) {
			st.ends[job] = 0
		}
	}
}

// awaited reports whether a job shares players with one that is not done.
func (s *search) awaited(job int, done jobs) bool {
	for other := range s.Jobs {
		if s.share[job][other] && !done[other] {
			return true
		}
	}
	return false
}

// soonest returns an order of play that fits on the fewest days, and how many these are.
func (p program) soonest() (order []api.Seat, days int, e api.Errno) {
	if len(p.Jobs) == 0 {
		return nil, 0, api.OK
	}
	all := p.Days
	for last := range len(all) {
		p.Days = all[:last+1]
		if order, fits := p.find(jobs{}); fits {
			return order, last + 1, api.OK
		}
	}
	return nil, 0, api.ErrNone
}

// nearest returns an order of play that fits with the fewest moves from old seats, and how many these are.
func (p program) nearest(old []api.Seat) (order []api.Seat, moves int, e api.Errno) {
	// Whether any order fits is known sooner if moves are not counted.
	if _, fits := p.find(jobs{}); !fits {
		return nil, 0, api.ErrNone
	}
	order, fits := p.near(old, moves, jobs{})
	for !fits {
		moves++
		order, fits = p.near(old, moves, jobs{})
	}
	return order, moves, api.OK
}

// later returns the jobs that need not be played by a day: they are due later, and no job that must be played by then comes after them.
func (p program) later(day int) jobs {
	var needed, out jobs
	for job, j := range slices.Backward(p.Jobs) {
		needed[job] = needed[job] || j.Due <= day
		for _, other := range j.After {
			needed[other] = needed[other] || needed[job]
		}
		out[job] = !needed[job]
	}
	return out
}
