package gate

import (
	"slices"

	"deuce/api"
)

func validTerms(x api.Terms) bool {
	invalid := func(minutes int) bool { return !validMinute(minutes) }
	return within(x.Short, 0, x.Long) && validMinute(x.Long) && len(x.Played) <= api.MaxPlayed && !slices.ContainsFunc(x.Played, invalid)
}

// validTickets reports whether tickets are valid for terms that are.
func validTickets(x api.Terms, l []api.Ticket) bool {
	if len(l) > api.MaxGroups {
		return false
	}
	came := map[int]bool{}
	for _, t := range l {
		if came[t.Id] || !validTicket(x, t) {
			return false
		}
		came[t.Id] = true
	}
	return true
}

// validTicket reports whether a ticket is valid; others may have the same Id.
func validTicket(x api.Terms, t api.Ticket) bool {
	return within(t.Id, 0, api.MaxPlayer) && within(t.Price, 0, api.MaxPrice) && within(t.Day, 0, len(x.Played)-1) && within(t.Paid, 0, t.Price)
}

// refund returns how many cents are paid back now for a ticket.
func refund(x api.Terms, t api.Ticket) int {
	due, played := 0, x.Played[t.Day]
	switch {
	case played < x.Short:
		due = t.Price
	case played < x.Long:
		due = t.Price / 2
	}
	return max(due-t.Paid, 0)
}
