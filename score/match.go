package score

import "deuce/api"

// match is a match that is played: its format, its score, and what the score does not tell.
type match struct {
	api.Format
	api.Score
	opens int        // the side that serves first
	won   api.Pair   // sets
	fresh bool       // whether balls were changed before the game in play
	games []api.Game // that are over
}

// play returns the match after some points.
func play(f api.Format, first int, points []int) (match, api.Errno) {
	if e := Check(f); e != api.OK {
		return match{}, e
	}
	if first != 0 && first != 1 {
		return match{}, api.ErrArg
	}
	if len(points) > api.MaxPoints {
		return match{}, api.ErrMany
	}
	m := match{Format: f, Score: api.Score{Server: first, Winner: -1}, opens: first}
	for _, side := range points {
		if side != 0 && side != 1 || m.Winner != -1 {
			return match{}, api.ErrPoint
		}
		m.point(side)
	}
	return m, api.OK
}

// point plays a point that a side wins.
func (m *match) point(side int) {
	s := formatOfSet(m.Format, m.won)
	tie := isTie(s, m.Board.Games)
	m.Board.Points = plus(m.Board.Points, side)
	played := m.Board.Points.A + m.Board.Points.B
	switch {
	case endsGame(s, tie, m.Board.Points, side):
		m.endGame(s, side)
	case tie:
		if played%6 == 0 {
			m.Ends++
		}
		// The point 0 is a turn of its own, then each turn has two points.
		m.Server = m.server(len(m.games), (played+1)/2)
	}
}

// endGame ends the game in play, and with it the set or the match if a side wins these, too.
func (m *match) endGame(s api.Format, side int) {
	m.games = append(m.games, api.Game{
		Set:    len(m.Board.Sets),
		Tie:    isTie(s, m.Board.Games),
		Server: m.server(len(m.games), 0),
		Winner: side,
		Points: m.Board.Points,
		Fresh:  m.fresh,
	})
	set := endsSet(s, m.Board.Games, side)
	games := plus(m.Board.Games, side)
	m.Board.Games, m.Board.Points = games, api.Pair{}
	if set {
		m.Board.Sets = append(m.Board.Sets, games)
		m.Board.Games = api.Pair{}
		m.won = plus(m.won, side)
	}
	m.Winner = winner(m.Format, m.won)
	if m.Winner != -1 {
		m.Server = -1
		return
	}
	if (games.A+games.B)%2 == 1 {
		m.Ends++
	}
	m.beginGame()
}

// beginGame makes the next game the one in play.
func (m *match) beginGame() {
	game := len(m.games)
	m.Server = m.server(game, 0)
	m.fresh = m.changes(game)
	if m.fresh {
		m.Balls++
	}
}

// server returns who serves in a turn of a game; a game that is no tie-break has the turn 0 only.
func (m *match) server(game, turn int) int {
	// The pair of an odd turn goes on from the game that it would serve next.
	own := game + turn%2
	side := (m.opens + own) % 2
	if m.Doubles && (own/2+turn/2)%2 == 1 {
		return side + 2
	}
	return side
}

// due reports whether new balls are due before a game.
func (m *match) due(game int) bool {
	if m.First == 0 || game < m.First {
		return false
	}
	return game == m.First || m.Then > 0 && (game-m.First)%m.Then == 0
}

// changes reports whether balls are changed before a game, when it is the next one.
func (m *match) changes(game int) bool {
	if game >= 2 && m.games[game-2].Tie && m.due(game-2) {
		return true
	}
	return m.due(game) && !isTie(formatOfSet(m.Format, m.won), m.Board.Games)
}
