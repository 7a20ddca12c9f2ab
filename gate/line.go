package gate

import (
	"cmp"
	"slices"

	"deuce/api"
)

// line is a queue that has been checked: the numbers of its groups by their Ids, and in the order in which they stand; its frees are in the order of their minutes.
type line struct {
	api.Queue
	numbers map[int]int
	order   []int
}

// open returns a queue that is checked now.
func open(q api.Queue) (line, api.Errno) {
	l := line{Queue: q}
	if !validGates(q) || !l.takeGroups() || !l.takeFrees() {
		return line{}, api.ErrQueue
	}
	return l, api.OK
}

// openFor returns a queue that is checked now, and the number of its group with an Id.
func openFor(q api.Queue, id int) (l line, group int, e api.Errno) {
	l, e = open(q)
	if e != api.OK {
		return line{}, 0, e
	}
	group, came := l.numbers[id]
	if !came {
		return line{}, 0, api.ErrArg
	}
	return l, group, api.OK
}

func within(n, low, high int) bool { return low <= n && n <= high }

func validMinute(n int) bool { return within(n, 0, api.MaxMinute) }

func validSeats(n int) bool { return within(n, 0, api.MaxSeats) }

func validGates(q api.Queue) bool {
	return validMinute(q.Open) && within(q.Rate.Low, 1, q.Rate.High) && q.Rate.High <= api.MaxPass && validSeats(q.Seats)
}

// validParty reports whether a group is valid; others may have the same Id.
func validParty(p api.Party) bool {
	return within(p.Id, 0, api.MaxPlayer) && validMinute(p.At) && within(p.Size, 1, api.MaxParty) &&
		(p.Quits == never || within(p.Quits, p.At, api.MaxMinute))
}

// takeGroups takes the groups by their Ids and in their order, and reports whether they are valid.
func (l *line) takeGroups() bool {
	if len(l.Groups) > api.MaxGroups {
		return false
	}
	l.numbers = map[int]int{}
	for group, p := range l.Groups {
		if _, came := l.numbers[p.Id]; came || !validParty(p) {
			return false
		}
		l.numbers[p.Id] = group
		l.order = append(l.order, group)
	}
	slices.SortFunc(l.order, func(a, b int) int {
		x, y := l.Groups[a], l.Groups[b]
		return cmp.Or(cmp.Compare(x.At, y.At), cmp.Compare(x.Id, y.Id))
	})
	return true
}

// takeFrees orders the frees by their minutes, as new memory, and reports whether they are valid.
func (l *line) takeFrees() bool {
	invalid := func(f api.Free) bool { return !validMinute(f.At) || !validSeats(f.Count) }
	if len(l.Frees) > api.MaxGroups || slices.ContainsFunc(l.Frees, invalid) {
		return false
	}
	l.Frees = slices.Clone(l.Frees)
	slices.SortFunc(l.Frees, func(a, b api.Free) int { return cmp.Compare(a.At, b.At) })
	return true
}
