package balls

import (
	"math"

	"deuce/api"
	"deuce/score"
)

// spot is where a match stands at the beginning of a game: the sets that the sides have won, the games of the set in play, the number of the game, and whether the one before it was a tie-break.
type spot struct {
	won, games api.Pair
	number     int
	tie        bool
}

// match is a match that goes on: its format, the games with which its sets can end, those of the last set, and the bounds of the changes that come behind a spot, where they are known.
type match struct {
	api.Format
	usual, last []api.Pair
	known       map[spot]api.Span
}

func sum(p api.Pair) int { return p.A + p.B }

// begun reports whether some point of a match was played.
func begun(b api.Board) bool { return len(b.Sets) > 0 || setBegun(b) }

// setBegun reports whether some point of the set in play was played.
func setBegun(b api.Board) bool { return b.Games != api.Pair{} || b.Points != api.Pair{} }

// rest returns the least and the greatest number of changes of balls that come from a board on, and of sets that have not begun.
func rest(f api.Format, b api.Board) (changes, sets api.Span) {
	at := spotOf(b)
	m := match{Format: f, known: map[spot]api.Span{}}
	if m.over(at) {
		return api.Span{}, api.Span{}
	}
	m.usual, m.last = endsOfSet(f, f.Tie), endsOfSet(f, f.LastTie)
	sets = api.Span{Low: f.Sets - max(at.won.A, at.won.B), High: 2*f.Sets - 1 - sum(at.won)}
	if setBegun(b) {
		sets = less(sets, just(1))
	}
	return m.changes(at), sets
}

// spotOf returns where a match stands at the beginning of the game in play.
func spotOf(b api.Board) spot {
	var at spot
	for _, end := range b.Sets {
		at = at.behind(end)
	}
	if b.Games != (api.Pair{}) {
		at.games, at.tie = b.Games, false
		at.number += sum(b.Games)
	}
	return at
}

// behind returns where a match stands behind the set in play, by the games with which it ends.
func (at spot) behind(end api.Pair) spot {
	// Only with a tie-break a set is won by just one game.
	next := spot{won: at.won, number: at.number + sum(end) - sum(at.games), tie: max(end.A-end.B, end.B-end.A) == 1}
	if end.A > end.B {
		next.won.A++
	} else {
		next.won.B++
	}
	return next
}

// endsOfSet returns the games with which a set can end whose tie-break is played at so many games.
func endsOfSet(f api.Format, tie int) []api.Pair {
	var l []api.Pair
	f.Sets, f.LastTie = 1, tie
	for a := range f.Games + 2 {
		for b := range f.Games + 2 {
			end := api.Pair{A: a, B: b}
			if arises, _ := score.Arises(f, api.Board{Sets: []api.Pair{end}}); arises {
				l = append(l, end)
			}
		}
	}
	return l
}

func (m *match) over(at spot) bool { return max(at.won.A, at.won.B) == m.Sets }

// isLast reports whether the set in play is the last one.
func (m *match) isLast(at spot) bool { return at.won == api.Pair{A: m.Sets - 1, B: m.Sets - 1} }

// changes returns the least and the greatest number of changes of balls that come behind a spot. It goes from set to set, as it does not matter who wins which of the games of a set.
func (m *match) changes(at spot) api.Span {
	if m.over(at) {
		return api.Span{}
	}
	if s, is := m.known[at]; is {
		return s
	}
	ends := m.usual
	if m.isLast(at) {
		ends = m.last
	}
	all := api.Span{Low: math.MaxInt}
	for _, end := range ends {
		// Each end that no side is beyond can still come.
		if end.A < at.games.A || end.B < at.games.B {
			continue
		}
		next := at.behind(end)
		s := plus(m.changes(next), just(m.changesUntil(at, next)))
		all = api.Span{Low: min(all.Low, s.Low), High: max(all.High, s.High)}
	}
	m.known[at] = all
	return all
}

// changesUntil returns how many changes of balls come behind a spot up to the beginning of the next set, or to the end of the match.
func (m *match) changesUntil(at, next spot) int {
	count := 0
	come := func(game int, tie bool) {
		late := at.tie && game == at.number+1 && m.due(game-2)
		if late || !tie && m.due(game) {
			count++
		}
	}
	for game := at.number + 1; game < next.number; game++ {
		come(game, next.tie && game == next.number-1)
	}
	if !m.over(next) {
		come(next.number, m.isTie(next))
	}
	return count
}

// isTie reports whether the first game of a set is a tie-break.
func (m *match) isTie(at spot) bool {
	if m.isLast(at) {
		return m.LastTie == 0
	}
	return m.Tie == 0
}

// due reports whether new balls are due before a game.
func (m *match) due(game int) bool {
	if m.First == 0 || game < m.First {
		return false
	}
	return game == m.First || m.Then > 0 && (game-m.First)%m.Then == 0
}
