package purse

import (
	"cmp"
	"slices"

	"deuce/api"
	"deuce/bracket"
)

// nobody is the second person of a team of one.
const nobody = -1

// The greatest Id of an item, and the limits that are not in package api.
const (
	maxId       = 99
	maxTeams    = 64
	maxPayments = 200
	maxUnits    = 1000000000
)

// book is a purse that has been checked: each of its items once, ordered by Id, and the teams, levies and rates by their persons.
type book struct {
	api.Purse
	teams  map[int]api.Team
	levies map[int]api.Levy
	rates  map[int]api.Rate
}

// open returns a purse that is checked now.
func open(p api.Purse) (book, api.Errno) {
	if e := bracket.Check(p.Tree, p.Slips); e != api.OK {
		return book{}, e
	}
	if !validPrizes(p) || !within(p.Daily, 0, api.MaxDaily) {
		return book{}, api.ErrPurse
	}
	b := book{Purse: p}
	if !b.takeTeams() || !b.takeLevies() || !b.takeRates() {
		return book{}, api.ErrTeam
	}
	if !b.takeItems() {
		return book{}, api.ErrItem
	}
	return b, api.OK
}

// openFor returns a purse that is checked now with a person.
func openFor(p api.Purse, person int) (book, api.Errno) {
	b, e := open(p)
	if e != api.OK {
		return book{}, e
	}
	if !b.has(person) {
		return book{}, api.ErrArg
	}
	return b, api.OK
}

func within(n, low, high int) bool { return low <= n && n <= high }

// has reports whether a person is in a team.
func (b *book) has(person int) bool {
	_, is := b.teams[person]
	return is
}

// validPrizes reports whether there is a prize for each number of matches won, and none is smaller than the one before.
func validPrizes(p api.Purse) bool {
	wrong := func(prize int) bool { return !within(prize, 0, api.MaxCents) }
	return len(p.Prizes) == p.Tree.Rounds+1 && slices.IsSorted(p.Prizes) && !slices.ContainsFunc(p.Prizes, wrong)
}

// personsOf returns the persons of a team.
func personsOf(t api.Team) []int {
	if t.Two == nobody {
		return []int{t.One}
	}
	return []int{t.One, t.Two}
}

// takeTeams takes the teams by their persons, and reports whether they are as described.
func (b *book) takeTeams() bool {
	if len(b.Teams) > maxTeams {
		return false
	}
	b.teams = map[int]api.Team{}
	players := map[int]bool{}
	for _, t := range b.Teams {
		if !within(t.Player, 0, api.MaxPlayer) || players[t.Player] {
			return false
		}
		players[t.Player] = true
		for _, person := range personsOf(t) {
			if !within(person, 0, api.MaxPerson) || b.has(person) {
				return false
			}
			b.teams[person] = t
		}
	}
	noTeam := func(player int) bool { return player != api.Bye && !players[player] }
	stranger := func(s api.Slip) bool { return s.Kind == api.Lucky && noTeam(s.Player) }
	return !slices.ContainsFunc(b.Tree.Slots, noTeam) && !slices.ContainsFunc(b.Slips, stranger)
}

// takeLevies takes the levies by their persons, and reports whether they are as described.
func (b *book) takeLevies() (valid bool) {
	b.levies, valid = byPerson(b.Levies, func(l api.Levy) (int, bool) {
		return l.Person, b.has(l.Person) && within(l.Mille, 0, api.MaxMille)
	})
	return valid
}

// takeRates takes the rates by their persons, and reports whether they are as described.
func (b *book) takeRates() (valid bool) {
	b.rates, valid = byPerson(b.Rates, func(r api.Rate) (int, bool) {
		return r.Person, b.has(r.Person) && within(r.Num, 1, api.MaxRate) && within(r.Den, 1, api.MaxRate)
	})
	return valid
}

// byPerson returns the elements of a list by the persons whom they are read to be of, and whether all of them are valid, and nobody has two.
func byPerson[E any](l []E, read func(e E) (person int, valid bool)) (of map[int]E, valid bool) {
	of = map[int]E{}
	for _, e := range l {
		person, good := read(e)
		if _, two := of[person]; two || !good {
			return nil, false
		}
		of[person] = e
	}
	return of, true
}

// takeItems leaves each item once, ordered by Id, as new memory, and reports whether they are as described and do not clash.
func (b *book) takeItems() bool {
	if len(b.Items) > api.MaxItems {
		return false
	}
	known := map[int]api.Item{}
	var different []api.Item
	for _, i := range b.Items {
		same, is := known[i.Id]
		if !b.described(i) || is && same != i {
			return false
		}
		if !is {
			known[i.Id] = i
			different = append(different, i)
		}
	}
	slices.SortFunc(different, func(x, y api.Item) int { return cmp.Compare(x.Id, y.Id) })
	b.Items = different
	return true
}

// described reports whether an item is as described; others may have the same Id.
func (b *book) described(i api.Item) bool {
	if !within(i.Id, 0, maxId) || !b.has(i.Person) {
		return false
	}
	switch i.Kind {
	case api.Fine:
		return within(i.Amount, 0, api.MaxCents)
	case api.Stay:
		return within(i.Amount, 0, api.MaxStay)
	}
	return false
}
