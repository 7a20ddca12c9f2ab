package gate

import (
	"slices"

	"deuce/api"
)

// atRates yields for each rate the minutes in which the groups are in.
func (l line) atRates(yield func(minutes []int) bool) {
	for rate := l.Rate.Low; rate <= l.Rate.High; rate++ {
		if !yield(l.enter(rate)) {
			return
		}
	}
}

// spanOf returns the span from the least to the greatest one of some numbers.
func spanOf(l []int) api.Span { return api.Span{Low: slices.Min(l), High: slices.Max(l)} }

// minutesOf returns the minute in which a group is in for each rate.
func (l line) minutesOf(group int) []int {
	var out []int
	for minutes := range l.atRates {
		out = append(out, minutes[group])
	}
	return out
}

// peopleUpTo returns for each rate how many people are in up to a minute.
func (l line) peopleUpTo(minute int) []int {
	var out []int
	for minutes := range l.atRates {
		people := 0
		for group, in := range minutes {
			if in != never && in <= minute {
				people += l.Groups[group].Size
			}
		}
		out = append(out, people)
	}
	return out
}

// always reports whether a group is in at each rate.
func (l line) always(group int) bool {
	for minutes := range l.atRates {
		if minutes[group] == never {
			return false
		}
	}
	return true
}

// enough returns the fewest further seats with which a group is in at each rate, and whether there are so many.
func (l line) enough(group int) (seats int, found bool) {
	people := 0
	for _, p := range l.Groups {
		people += p.Size
	}
	// One number after the other is tried, as a seat more can keep a group out: one before it gets in then, and takes more seats. With seats for all people nobody waits for one, and more of them change nothing.
	for n := range max(people-l.Seats, 0) + 1 {
		more := l
		more.Seats += n
		if more.always(group) {
			return n, true
		}
	}
	return 0, false
}
