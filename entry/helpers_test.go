package entry_test

import (
	"math/rand/v2"
	"slices"
	"testing"

	"deuce/api"
	"deuce/entry"
)

func enter(id, hour, player, rank int) api.Notice {
	return api.Notice{Id: id, Hour: hour, Kind: api.Enter, Player: player, Rank: rank}
}

func guard(id, hour, player, rank int) api.Notice {
	return api.Notice{Id: id, Hour: hour, Kind: api.Guard, Player: player, Rank: rank}
}

func wild(id, hour, player int) api.Notice {
	return api.Notice{Id: id, Hour: hour, Kind: api.Wild, Player: player}
}

func quits(id, hour, player int) api.Notice {
	return api.Notice{Id: id, Hour: hour, Kind: api.Quits, Player: player}
}

func sign(id, hour, player int) api.Notice {
	return api.Notice{Id: id, Hour: hour, Kind: api.Sign, Player: player}
}

// field is F of the chapter's examples.
func field() api.Field { return api.Field{Places: 3, Wilds: 1, Guards: 1, Close: 10, Freeze: 20} }

// example is L of the chapter's examples, and more.
func example(more ...api.Notice) []api.Notice {
	l := []api.Notice{
		enter(0, 1, 7, 50),
		enter(1, 2, 8, 20),
		guard(2, 3, 9, 10),
		guard(3, 4, 6, 30),
		enter(4, 5, 5, 70),
		enter(5, 6, 4, 0),
		enter(6, 11, 3, 1),
		wild(7, 12, 7),
		quits(8, 15, 8),
		sign(9, 21, 4),
		quits(10, 22, 5),
	}
	return append(l, more...)
}

// entered returns so many notices: the players 1, 2 and so on enter in the hour 0 with the ranks 1, 2 and so on.
func entered(n int) []api.Notice {
	var out []api.Notice
	for i := range n {
		out = append(out, enter(i, 0, i+1, i+1))
	}
	return out
}

// same reports whether two lists are equal.
func same(a, b api.Entries) bool {
	return slices.Equal(a.Main, b.Main) && slices.Equal(a.Wilds, b.Wilds) && slices.Equal(a.Out, b.Out) && a.Open == b.Open
}

// These are the greatest hour, Id and rank of random notices.
const lastHour, lastId, lastRank = 30, 69, 5

// random returns a source of the same numbers for the same seed.
func random(seed uint64) *rand.Rand { return rand.New(rand.NewPCG(seed, 5)) }

// randomField returns a field with few places.
func randomField(r *rand.Rand) api.Field {
	f := api.Field{Places: 1 + r.IntN(4), Wilds: r.IntN(3), Guards: r.IntN(4), Close: r.IntN(15)}
	f.Freeze = f.Close + r.IntN(10)
	return f
}

// randomNotice returns a notice about one of a few players for a field: up to Close more players enter, later more quit or sign in.
func randomNotice(r *rand.Rand, f api.Field, id, players int) api.Notice {
	n := api.Notice{Id: id, Hour: r.IntN(lastHour + 1), Player: r.IntN(players)}
	if r.IntN(2) == 0 {
		n.Hour = r.IntN(f.Close + 1)
	}
	kinds := []int{api.Enter, api.Enter, api.Enter, api.Guard, api.Guard, api.Guard, api.Wild, api.Sign}
	if n.Hour > f.Close || r.IntN(6) == 0 {
		kinds = []int{api.Enter, api.Guard, api.Wild, api.Wild, api.Sign, api.Sign, api.Sign, api.Quits, api.Quits}
	}
	n.Kind = kinds[r.IntN(len(kinds))]
	switch n.Kind {
	case api.Enter:
		n.Rank = r.IntN(lastRank + 1)
	case api.Guard:
		n.Rank = 1 + r.IntN(lastRank)
	}
	return n
}

// randomNotices returns up to so many notices in any order, and some of them twice.
func randomNotices(r *rand.Rand, f api.Field, players, most int) []api.Notice {
	var out []api.Notice
	ids := r.Perm(lastId + 1)
	for i := range max(r.IntN(most+1), r.IntN(most+1)) {
		out = append(out, randomNotice(r, f, ids[i], players))
	}
	for range r.IntN(1 + len(out)/4) {
		out = append(out, out[r.IntN(len(out))])
	}
	return out
}

// eachList calls a function with fields, and notices about so many players, so many at most.
func eachList(t *testing.T, times uint64, players, most int, do func(t *testing.T, r *rand.Rand, f api.Field, l []api.Notice)) {
	t.Helper()
	for seed := range times {
		r := random(seed)
		f := randomField(r)
		l := randomNotices(r, f, players, most)
		if e := entry.Check(f, l); e != api.OK {
			t.Fatalf("seed %d: Check = %d of %v", seed, e, l)
		}
		do(t, r, f, l)
		if t.Failed() {
			t.Fatalf("seed %d: %+v, %v", seed, f, l)
		}
	}
}

// listOf returns the list after the notices of an hour.
func listOf(t *testing.T, f api.Field, l []api.Notice, hour int) api.Entries {
	t.Helper()
	out, e := entry.List(f, l, hour)
	if e != api.OK {
		t.Fatalf("List at %d: %d", hour, e)
	}
	return out
}

// state is what is so after some notices, by the chapter's words: the notices by which players have entered, who ever got a wild card, who has one, who has quit and has signed in, who is in, and how many places there are.
type state struct {
	field                               api.Field
	places                              int
	came                                []api.Notice
	carded, wilds, quit, signed, inside []int
}

// stateAt returns the state after the notices of an hour, which are looked for hour by hour and Id by Id.
func stateAt(f api.Field, l []api.Notice, hour int) state {
	s := state{field: f, places: f.Places}
	for h := range min(hour, lastHour) + 1 {
		for id := range lastId + 1 {
			at := slices.IndexFunc(l, func(n api.Notice) bool { return n.Hour == h && n.Id == id })
			if at < 0 {
				continue
			}
			s.take(l[at])
			if h > f.Freeze {
				s.moveUp()
			}
		}
		if h <= f.Freeze {
			s.giveAll()
		}
	}
	return s
}

// take takes a notice, but for who is in by it.
func (s *state) take(n api.Notice) {
	switch n.Kind {
	case api.Enter, api.Guard:
		if n.Hour <= s.field.Close && s.entry(n.Player) == nil {
			s.came = append(s.came, n)
		}
	case api.Wild:
		if n.Hour <= s.field.Freeze && !slices.Contains(s.wilds, n.Player) && !slices.Contains(s.quit, n.Player) && len(s.wilds) < s.field.Wilds {
			s.wilds = append(s.wilds, n.Player)
			s.carded = append(s.carded, n.Player)
		}
	case api.Quits:
		s.quit = append(s.quit, n.Player)
		if at := slices.Index(s.wilds, n.Player); at >= 0 {
			s.wilds = slices.Delete(s.wilds, at, at+1)
			if n.Hour > s.field.Freeze {
				s.places++
			}
		}
	case api.Sign:
		s.signed = append(s.signed, n.Player)
	}
}

// entry returns the notice by which a player has entered, nil if there is none.
func (s *state) entry(player int) *api.Notice {
	for i, n := range s.came {
		if n.Player == player {
			return &s.came[i]
		}
	}
	return nil
}

func (s *state) isEntry(player int) bool {
	return s.entry(player) != nil && !slices.Contains(s.quit, player) && !slices.Contains(s.carded, player)
}

func (s *state) guarded(player int) bool {
	n := s.entry(player)
	return n != nil && n.Kind == api.Guard
}

// guards returns how many protected players are in.
func (s *state) guards() int {
	n := 0
	for _, player := range s.inside {
		if s.guarded(player) {
			n++
		}
	}
	return n
}

// order returns the entries in the order: rank by rank, the rank 0 last.
func (s *state) order() []int {
	var out []int
	for i := range lastRank + 1 {
		rank := (i + 1) % (lastRank + 1)
		for _, n := range s.came {
			if n.Rank == rank && s.isEntry(n.Player) {
				out = append(out, n.Player)
			}
		}
	}
	return out
}

// giveAll gives the places up to Freeze.
func (s *state) giveAll() {
	s.inside = nil
	for _, player := range s.order() {
		if len(s.inside) == s.places {
			return
		}
		if !s.guarded(player) || s.guards() < s.field.Guards {
			s.inside = append(s.inside, player)
		}
	}
}

// moveUp drops who is in and no entry any more, and gives the open places one by one to the first one who can have it.
func (s *state) moveUp() {
	var stay []int
	for _, player := range s.inside {
		if s.isEntry(player) {
			stay = append(stay, player)
		}
	}
	s.inside = stay
	for len(s.inside) < s.places {
		at := slices.IndexFunc(s.order(), s.next)
		if at < 0 {
			return
		}
		s.inside = append(s.inside, s.order()[at])
	}
}

// next reports whether a player, who is an entry, can move up after Freeze if a place is open.
func (s *state) next(player int) bool {
	return !slices.Contains(s.inside, player) && slices.Contains(s.signed, player) && (!s.guarded(player) || s.guards() < s.field.Guards)
}

// alternates returns the entries who are not in.
func (s *state) alternates() []int {
	var out []int
	for _, player := range s.order() {
		if !slices.Contains(s.inside, player) {
			out = append(out, player)
		}
	}
	return out
}

// list returns the list of a state.
func (s *state) list() api.Entries {
	return api.Entries{Main: s.inside, Wilds: s.wilds, Out: s.alternates(), Open: s.places - len(s.inside)}
}
