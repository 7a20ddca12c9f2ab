package gate

import "deuce/api"

// never is the Quits of a group that does not give up, and the minute of one that is not in.
const never = -1

// closing is the minute behind the last one: then everyone has given up.
const closing = api.MaxMinute + 1

// moment is a line at a minute: the rate, how many people have passed in this minute, how many seats are free, and how many of the frees have come.
type moment struct {
	line
	rate, minute, passed, free, freed int
}

// enter returns the minute in which each group is in at a rate.
func (l line) enter(rate int) []int {
	now := moment{line: l, rate: rate, free: l.Seats}
	out := make([]int, len(l.Groups))
	// Who stands first goes first, so that one group after the other can be asked when it goes.
	for _, group := range l.order {
		out[group] = now.admit(l.Groups[group])
	}
	return out
}

// admit goes on until a group that is the first one now has passed, or has given up, and returns the minute in which it is in.
func (now *moment) admit(p api.Party) int {
	quits := p.Quits
	if quits == never {
		quits = closing
	}
	gone := func() bool { return now.minute >= quits }
	now.reach(max(p.At, now.Open))
	for !gone() && now.free < p.Size {
		now.reach(min(quits, now.nextFree()))
	}
	if gone() {
		return never
	}
	now.free -= p.Size
	return now.pass(p.Size)
}

// pass lets people pass who have their seats, and returns the minute in which the last one of them does.
func (now *moment) pass(people int) int {
	passed := now.passed + people
	last := now.minute + (passed-1)/now.rate
	now.reach(now.minute + passed/now.rate)
	now.passed = passed % now.rate
	if last > api.MaxMinute {
		return never
	}
	return last
}

// reach goes on to a minute, unless it is past, and takes the seats that have become free.
func (now *moment) reach(minute int) {
	if minute > now.minute {
		now.minute, now.passed = minute, 0
	}
	for now.nextFree() <= now.minute && now.freed < len(now.Frees) {
		now.free += now.Frees[now.freed].Count
		now.freed++
	}
}

// nextFree returns the minute in which further seats become free.
func (now *moment) nextFree() int {
	if now.freed == len(now.Frees) {
		return closing
	}
	return now.Frees[now.freed].At
}
