package referee

import (
	"slices"

	"deuce/api"
	"deuce/bracket"
	"deuce/entry"
	"deuce/play"
	"deuce/score"
)

// none is the number of a match, a side or a day if there is none.
const none = -1

// work is a desk at work: what it began with, and what is known now. The courts are open at the register's Days.
type work struct {
	api.Desk
	api.Register
}

func validDesk(d api.Desk) bool {
	if entry.Check(d.Field, nil) != api.OK || bracket.Check(d.Tree, nil) != api.OK || score.Check(d.Format) != api.OK ||
		play.Check(api.Program{Days: d.Days, Rest: d.Rest}) != api.OK {
		return false
	}
	_, _, e := play.Jobs(d.Tree, nil, d.Stages)
	return e == api.OK || e == api.ErrMany
}

// begin returns a valid desk at the beginning of its work.
func begin(d api.Desk) *work {
	w := &work{Desk: d}
	w.shut()
	// Courts can be closed, but not those of the desk that was given.
	for _, hours := range d.Days {
		w.Register.Days = append(w.Register.Days, slices.Clone(hours))
	}
	return w
}

// commands returns all lines that there are, by their first words.
func (w *work) commands() map[string]command {
	return map[string]command{
		"hour":    {1, w.hour},
		"enter":   {2, w.notice(api.Enter)},
		"guard":   {2, w.notice(api.Guard)},
		"wild":    {1, w.notice(api.Wild)},
		"quit":    {1, w.notice(api.Quits)},
		"sign":    {1, w.notice(api.Sign)},
		"main":    {0, w.entries(func(l api.Entries) []int { return l.Main })},
		"wilds":   {0, w.entries(func(l api.Entries) []int { return l.Wilds })},
		"out":     {0, w.entries(func(l api.Entries) []int { return l.Out })},
		"stand":   {1, w.stand},
		"open":    {3, w.open},
		"point":   {1, w.point},
		"score":   {0, w.played(games)},
		"server":  {0, w.played(server)},
		"retire":  {1, w.leave(api.Retired)},
		"default": {1, w.leave(api.Default)},
		"walk":    {3, w.walk},
		"lucky":   {3, w.lucky},
		"winner":  {2, w.winner},
		"may":     {2, w.may},
		"left":    {0, w.left},
		"close":   {4, w.close},
		"jobs":    {0, w.planned(jobs)},
		"need":    {0, w.planned(need)},
		"stuck":   {0, w.planned(stuck)},
	}
}
