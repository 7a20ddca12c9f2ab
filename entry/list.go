package entry

import (
	"cmp"
	"slices"

	"deuce/api"
)

// Where a player stands.
const (
	nowhere = iota
	inMain
	inWilds
	inOut
)

// player is what is known of one: the rank and the turn are those of the entry, card tells whether the player ever got a wild card.
type player struct {
	entered, guarded, card, quit, signed bool
	rank, turn                           int
}

// entry reports whether the player is an entry.
func (p player) entry() bool { return p.entered && !p.quit && !p.card }

// list is what is known after some notices: the field (its Places grow when wild cards are given back late), the players by their numbers, how many have entered, who is in, and who has a wild card, as they got it.
type list struct {
	api.Field
	players     map[int]player
	turns       int
	main, cards []int
}

func newList(f api.Field) *list { return &list{Field: f, players: map[int]player{}} }

// late reports whether an hour is one at which those who are in stay in.
func (l *list) late(hour int) bool { return hour > l.Freeze }

// take takes a notice; all earlier ones have been taken.
func (l *list) take(n api.Notice) {
	p := l.players[n.Player]
	switch n.Kind {
	case api.Enter, api.Guard:
		if n.Hour <= l.Close && !p.entered {
			p.entered, p.guarded, p.rank, p.turn = true, n.Kind == api.Guard, n.Rank, l.turns
			l.turns++
		}
	case api.Wild:
		// Who ever got a wild card has it still, or has quit.
		if !l.late(n.Hour) && !p.card && !p.quit && len(l.cards) < l.Wilds {
			p.card = true
			l.cards = append(l.cards, n.Player)
		}
	case api.Quits:
		if l.late(n.Hour) && p.card && !p.quit {
			l.Places++
		}
		p.quit = true
		l.cards = slices.DeleteFunc(l.cards, func(other int) bool { return other == n.Player })
	case api.Sign:
		p.signed = true
	}
	l.players[n.Player] = p
	l.settle(l.late(n.Hour))
}

// settle gives the places. Up to Freeze all of them are given anew; late, those who are in stay in, and only who has signed in moves up.
func (l *list) settle(late bool) {
	l.main = slices.DeleteFunc(l.main, func(number int) bool { return !late || !l.players[number].entry() })
	guards := 0
	for _, number := range l.main {
		guards += one(l.players[number].guarded)
	}
	// Going through them once is enough: who is passed over cannot have a place after others have got theirs, either.
	for _, number := range l.alternates() {
		p := l.players[number]
		if len(l.main) < l.Places && (p.signed || !late) && (guards < l.Guards || !p.guarded) {
			l.main = append(l.main, number)
			guards += one(p.guarded)
		}
	}
}

// one returns 1 for what is so, and 0 for what is not.
func one(is bool) int {
	if is {
		return 1
	}
	return 0
}

// order returns the entries in the order.
func (l *list) order() []int {
	var out []int
	for number, p := range l.players {
		if p.entry() {
			out = append(out, number)
		}
	}
	slices.SortFunc(out, func(a, b int) int {
		p, q := l.players[a], l.players[b]
		return cmp.Or(cmp.Compare(one(p.rank == 0), one(q.rank == 0)), cmp.Compare(p.rank, q.rank), cmp.Compare(p.turn, q.turn))
	})
	return out
}

// alternates returns the entries who are not in, in the order.
func (l *list) alternates() []int {
	return slices.DeleteFunc(l.order(), func(number int) bool { return slices.Contains(l.main, number) })
}

// entries returns the list as it is given out.
func (l *list) entries() api.Entries {
	return api.Entries{Main: slices.Clone(l.main), Wilds: slices.Clone(l.cards), Out: l.alternates(), Open: l.Places - len(l.main)}
}

// stand returns where a player is, and the number of the place there.
func (l *list) stand(number int) (where, place int) {
	out := l.entries()
	for i, part := range [][]int{out.Main, out.Wilds, out.Out} {
		if at := slices.Index(part, number); at >= 0 {
			return inMain + i, at + 1
		}
	}
	return nowhere, 0
}

// cut returns the rank of the last one in the order who is in and is not protected, and whether there is one.
func (l *list) cut() (rank int, found bool) {
	for _, number := range l.order() {
		if p := l.players[number]; !p.guarded && slices.Contains(l.main, number) {
			rank, found = p.rank, true
		}
	}
	return rank, found
}

// needs returns the fewest players of Main who must quit at an hour, one after the other, until a player is in, and whether any are enough (they are not for one who is no entry). The list is that after the notices of the hour; it is changed.
func (l *list) needs(hour, number int) (fewest int, enough bool) {
	for quits := range api.MaxNotices + 1 {
		if slices.Contains(l.main, number) {
			return quits, true
		}
		if len(l.main) == 0 {
			break
		}
		l.take(api.Notice{Hour: hour, Kind: api.Quits, Player: l.quitter(number)})
	}
	return 0, false
}

// quitter returns who of Main, where someone is, quits best for an alternate to get in. Each quit makes one place, and who makes it matters only by being protected or not. For an alternate who is not protected, those who are had better stay in: while Guards of them do, the other ones do not move up before it. For one who is protected they had better quit: it needs their places if Guards of them are in, and loses nothing by it if not.
func (l *list) quitter(number int) int {
	guarded := l.players[number].guarded
	alike := slices.IndexFunc(l.main, func(other int) bool { return l.players[other].guarded == guarded })
	return l.main[max(alike, 0)]
}
