package entry

import (
	"cmp"
	"slices"

	"deuce/api"
)

// book is a field and notices that have been checked: each notice once, in the order in which they are taken.
type book struct {
	api.Field
	notices []api.Notice
}

// open returns a field and notices that are checked now.
func open(f api.Field, l []api.Notice) (book, api.Errno) {
	if !validField(f) {
		return book{}, api.ErrField
	}
	different, valid := differentNotices(l)
	if !valid {
		return book{}, api.ErrNotice
	}
	return book{f, different}, api.OK
}

// openFor returns a field and notices that are checked now with an hour and a player.
func openFor(f api.Field, l []api.Notice, hour, player int) (book, api.Errno) {
	b, e := open(f, l)
	if e != api.OK {
		return book{}, e
	}
	if !within(hour, 0, api.MaxHour) || !within(player, 0, api.MaxPlayer) {
		return book{}, api.ErrArg
	}
	return b, api.OK
}

func within(n, low, high int) bool { return low <= n && n <= high }

func validField(f api.Field) bool {
	return within(f.Places, 1, api.MaxPlaces) && within(f.Wilds, 0, api.MaxPlaces) && within(f.Guards, 0, api.MaxPlaces) &&
		within(f.Close, 0, api.MaxHour) && within(f.Freeze, f.Close, api.MaxHour)
}

// validNotice reports whether a notice is valid; others may have the same Id.
func validNotice(n api.Notice) bool {
	ranks := ranksOf(n.Kind)
	return within(n.Id, 0, api.MaxPlayer) && within(n.Player, 0, api.MaxPlayer) &&
		within(n.Hour, 0, api.MaxHour) && within(n.Rank, ranks.Low, ranks.High)
}

// ranksOf returns the ranks that a notice of a kind can have: the empty span if there is no such kind.
func ranksOf(kind int) api.Span {
	switch kind {
	case api.Enter:
		return api.Span{Low: 0, High: api.MaxRank}
	case api.Guard:
		return api.Span{Low: 1, High: api.MaxRank}
	case api.Wild, api.Quits, api.Sign:
		return api.Span{}
	}
	return api.Span{Low: 1, High: 0}
}

// differentNotices returns the different notices, in the order in which they are taken, as new memory, and whether they are valid.
func differentNotices(l []api.Notice) (different []api.Notice, valid bool) {
	if len(l) > api.MaxNotices {
		return nil, false
	}
	known := map[int]api.Notice{}
	for _, n := range l {
		same, is := known[n.Id]
		if !validNotice(n) || is && same != n {
			return nil, false
		}
		if !is {
			known[n.Id] = n
			different = append(different, n)
		}
	}
	slices.SortFunc(different, func(a, b api.Notice) int {
		return cmp.Or(cmp.Compare(a.Hour, b.Hour), cmp.Compare(a.Id, b.Id))
	})
	return different, true
}

// at returns the list after the notices of an hour.
func (b book) at(hour int) *list {
	l := newList(b.Field)
	for _, n := range b.notices {
		if n.Hour <= hour {
			l.take(n)
		}
	}
	return l
}

// when returns the first hour after whose notices a player is in, or has a wild card, and whether there is one.
func (b book) when(player int) (hour int, found bool) {
	l := newList(b.Field)
	for i, n := range b.notices {
		l.take(n)
		more := i+1 < len(b.notices) && b.notices[i+1].Hour == n.Hour
		if where, _ := l.stand(player); !more && (where == inMain || where == inWilds) {
			return n.Hour, true
		}
	}
	return 0, false
}
