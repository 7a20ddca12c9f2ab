package score_test

import (
	"slices"
	"testing"

	"deuce/api"
	"deuce/score"
)

// P1.1: TestCheck looks at the limits of each field of a format.
func TestCheck(t *testing.T) {
	for name, f := range formats() {
		if e := score.Check(f); e != api.OK {
			t.Errorf("%s: %d", name, e)
		}
	}
	for _, f := range []api.Format{
		{Sets: 1, Games: 1, Tie: -1, To: 1, LastTie: -1, LastTo: 1},
		{Sets: 3, Games: 8, Tie: 8, To: 15, LastTie: 7, LastTo: 15, First: 20, Then: 20},
		{Sets: 3, Games: 8, Tie: 7, To: 15, LastTie: 8, LastTo: 15, NoAd: true, Doubles: true},
		{Sets: 2, Games: 6, Tie: 0, To: 7, LastTie: -1, LastTo: 10, First: 0, Then: 20},
	} {
		if e := score.Check(f); e != api.OK {
			t.Errorf("%v: %d", f, e)
		}
	}
	for name, f := range invalid() {
		if e := score.Check(f); e != api.ErrFormat {
			t.Errorf("%s: %d", name, e)
		}
	}
}

// P1: TestFormatFirst: each function has the error of the format before any other one, and nothing else with it.
func TestFormatFirst(t *testing.T) {
	bad := api.Board{Games: pair(-1, 99)}
	for name, f := range invalid() {
		if s, e := score.Play(f, 7, []int{9}); e != api.ErrFormat || !nothing(s) {
			t.Errorf("%s: Play = %v, %d", name, s, e)
		}
		if l, e := score.Games(f, 7, []int{9}); e != api.ErrFormat || len(l) != 0 {
			t.Errorf("%s: Games = %v, %d", name, l, e)
		}
		if is, e := score.Arises(f, bad); e != api.ErrFormat || is {
			t.Errorf("%s: Arises = %v, %d", name, is, e)
		}
		if n, e := score.Least(f, bad, 7); e != api.ErrFormat || n != 0 {
			t.Errorf("%s: Least = %d, %d", name, n, e)
		}
		if n, e := score.Ways(f, []api.Pair{pair(-1, 0)}); e != api.ErrFormat || n != 0 {
			t.Errorf("%s: Ways = %d, %d", name, n, e)
		}
		if games, n, e := score.Range(f); e != api.ErrFormat || n != 0 || games != (api.Span{}) {
			t.Errorf("%s: Range = %v, %d, %d", name, games, n, e)
		}
	}
}

// P1.2, P1.3: TestPlayErrors: the order of errors is that of the side, the number of points, and the points.
func TestPlayErrors(t *testing.T) {
	endless := with(func(f *api.Format) { f.Tie = -1 })
	long := slices.Repeat([]int{0, 1}, 300)
	for i, x := range []struct {
		f      api.Format
		first  int
		points []int
		e      api.Errno
	}{
		{short(), 2, run(9, 601), api.ErrArg},
		{short(), -1, nil, api.ErrArg},
		{short(), 0, run(9, 601), api.ErrMany},
		{short(), 0, run(9, 600), api.ErrPoint},
		{short(), 0, []int{0, 1, 2}, api.ErrPoint},
		{short(), 0, []int{0, -1, 0}, api.ErrPoint},
		{short(), 0, run(0, 17), api.ErrPoint},
		{short(), 1, run(0, 16, 1, 1), api.ErrPoint},
		{short(), 1, run(0, 16), api.OK},
		{endless, 0, long, api.OK},
		{endless, 0, append(slices.Clone(long), 0), api.ErrMany},
	} {
		s, e := score.Play(x.f, x.first, x.points)
		if e != x.e || e != api.OK && !nothing(s) {
			t.Errorf("%d: Play = %v, %d", i, s, e)
		}
		l, e := score.Games(x.f, x.first, x.points)
		if e != x.e || e != api.OK && len(l) != 0 {
			t.Errorf("%d: Games = %v, %d", i, l, e)
		}
	}
}

// R4: TestMemory: no argument is changed, and no result shares memory with another one.
func TestMemory(t *testing.T) {
	points := run(0, 8, 1, 9)
	before := slices.Clone(points)
	a, _ := score.Play(short(), 0, points)
	l, _ := score.Games(short(), 0, points)
	a.Board.Sets[0], l[0] = pair(9, 9), api.Game{Set: 9}
	b, _ := score.Play(short(), 0, points)
	if !slices.Equal(points, before) || b.Board.Sets[0] != pair(2, 0) {
		t.Errorf("Play = %v of %v", b, points)
	}
	sets := []api.Pair{pair(2, 0), pair(0, 2)}
	board := api.Board{Sets: sets[:1], Games: pair(1, 1)}
	score.Arises(short(), board)
	score.Least(short(), board, 0)
	score.Ways(short(), sets[:1])
	if sets[0] != pair(2, 0) || sets[1] != pair(0, 2) {
		t.Errorf("sets are %v now", sets)
	}
}

// P1.2: TestPlay: games, tie-breaks, sets and the match are won as the chapter says.
func TestPlay(t *testing.T) {
	noAd := with(func(f *api.Format) { f.NoAd = true })
	endless := with(func(f *api.Format) { f.Tie = -1 })
	early := with(func(f *api.Format) { f.Tie = 1 })
	final := with(func(f *api.Format) { f.Sets, f.Tie = 1, -1 })
	toTwoAll := run(0, 4, 1, 8, 0, 4)
	for name, x := range map[string]struct {
		f             api.Format
		points        []int
		sets          []api.Pair
		games, inGame api.Pair
		winner        int
	}{
		"nothing":                   {short(), nil, nil, pair(0, 0), pair(0, 0), -1},
		"example":                   {short(), run(0, 4, 1, 4, 0, 8, 1, 4), []api.Pair{pair(3, 1)}, pair(0, 1), pair(0, 0), -1},
		"four points":               {short(), run(0, 2, 1, 4), nil, pair(0, 1), pair(0, 0), -1},
		"advantage":                 {short(), run(0, 3, 1, 4), nil, pair(0, 0), pair(3, 4), -1},
		"two more":                  {short(), run(0, 3, 1, 5), nil, pair(0, 1), pair(0, 0), -1},
		"no advantage":              {noAd, run(0, 3, 1, 4), nil, pair(0, 1), pair(0, 0), -1},
		"three all":                 {noAd, run(0, 3, 1, 3), nil, pair(0, 0), pair(3, 3), -1},
		"one game more is no set":   {short(), run(0, 4, 1, 4, 0, 4), nil, pair(2, 1), pair(0, 0), -1},
		"before the tie-break":      {short(), toTwoAll, nil, pair(2, 2), pair(0, 0), -1},
		"two more of a tie-break":   {short(), append(run(0, 4, 1, 8, 0, 4), run(0, 2, 1, 3)...), nil, pair(2, 2), pair(2, 3), -1},
		"tie-break":                 {short(), append(run(0, 4, 1, 8, 0, 4), run(0, 2, 1, 4)...), []api.Pair{pair(2, 3)}, pair(0, 0), pair(0, 0), -1},
		"tie-break with advantage":  {noAd, append(run(0, 4, 1, 8, 0, 4), run(0, 2, 1, 3)...), nil, pair(2, 2), pair(2, 3), -1},
		"early tie-break":           {early, run(0, 4, 1, 4, 0, 3), []api.Pair{pair(2, 1)}, pair(0, 0), pair(0, 0), -1},
		"no tie-break":              {endless, run(0, 4, 1, 8, 0, 8, 1, 8), nil, pair(3, 4), pair(0, 0), -1},
		"long set":                  {endless, run(0, 4, 1, 8, 0, 8, 1, 12), []api.Pair{pair(3, 5)}, pair(0, 0), pair(0, 0), -1},
		"last set is a tie-break":   {short(), run(0, 8, 1, 8, 0, 3), []api.Pair{pair(2, 0), pair(0, 2)}, pair(0, 0), pair(3, 0), -1},
		"won in the last set":       {short(), run(0, 8, 1, 8, 0, 4), []api.Pair{pair(2, 0), pair(0, 2), pair(1, 0)}, pair(0, 0), pair(0, 0), 0},
		"won at once":               {short(), run(1, 16), []api.Pair{pair(0, 2), pair(0, 2)}, pair(0, 0), pair(0, 0), 1},
		"the only set is the last":  {final, run(1, 4), []api.Pair{pair(0, 1)}, pair(0, 0), pair(0, 0), 1},
		"the only one is to LastTo": {final, run(1, 3), nil, pair(0, 0), pair(0, 3), -1},
	} {
		s, e := score.Play(x.f, 0, x.points)
		if e != api.OK || !slices.Equal(s.Board.Sets, x.sets) || s.Board.Games != x.games || s.Board.Points != x.inGame || s.Winner != x.winner {
			t.Errorf("%s: Play = %v, %d", name, s, e)
		}
		if (s.Server == -1) != (x.winner != -1) {
			t.Errorf("%s: the server is %d", name, s.Server)
		}
	}
}

// P1.2: TestServers: the server of each point of a match up to the tie-break of the first set, and in it.
func TestServers(t *testing.T) {
	points := append(run(0, 4, 1, 8, 0, 4), 0, 1, 0, 1, 0, 1, 0, 1, 1, 1, 0)
	single := append(run(0, 4, 1, 4, 0, 4, 1, 4), 0, 1, 1, 0, 0, 1, 1, 0, 0)
	double := append(run(0, 4, 1, 4, 2, 4, 3, 4), 0, 1, 1, 2, 2, 3, 3, 0, 0)
	other := append(run(1, 4, 0, 4, 3, 4, 2, 4), 1, 0, 0, 3, 3, 2, 2, 1, 1)
	for i, x := range []struct {
		doubles bool
		first   int
		want    []int
		behind  []int // of the games behind the tie-break
	}{
		{false, 0, single, []int{1, 0, 1, 0}},
		{true, 0, double, []int{1, 2, 3, 0}},
		{true, 1, other, []int{0, 3, 2, 1}},
	} {
		f := with(func(f *api.Format) { f.Doubles, f.To = x.doubles, 5 })
		for n, want := range x.want {
			if s, e := score.Play(f, x.first, points[:n]); e != api.OK || s.Server != want {
				t.Errorf("%d: point %d: %d instead of %d, %d", i, n, s.Server, want, e)
			}
		}
		behind := append(slices.Clone(points[:16]), run(1, 5)...)
		for n, want := range x.behind {
			s, e := score.Play(f, x.first, append(slices.Clone(behind), run(0, 4, 1, 8)[:4*n]...))
			if e != api.OK || s.Server != want {
				t.Errorf("%d: game %d: %d instead of %d, %d", i, 5+n, s.Server, want, e)
			}
		}
	}
	// The tie-break is the game 1: the side 1 begins it, and each pair with the player whose turn it is.
	f := api.Format{Sets: 3, Games: 1, To: 15, LastTo: 15, Doubles: true}
	points = append(run(0, 15), slices.Repeat([]int{0, 1}, 5)...)
	for n, want := range []int{1, 2, 2, 3, 3, 0, 0, 1, 1, 2, 2} {
		if s, e := score.Play(f, 0, points[:15+n]); e != api.OK || s.Server != want {
			t.Errorf("odd tie-break: point %d: %d instead of %d, %d", n, s.Server, want, e)
		}
	}
}

// P1.2: TestEnds: ends are changed after odd games of a set, and after each 6 points of a tie-break.
func TestEnds(t *testing.T) {
	toTwoAll := run(0, 4, 1, 8, 0, 4)
	one := with(func(f *api.Format) { f.Sets, f.LastTie, f.LastTo = 1, 0, 6 })
	for name, x := range map[string]struct {
		f      api.Format
		points []int
		want   int
	}{
		"nothing":                         {short(), nil, 0},
		"a game that is not over":         {short(), run(0, 3, 1, 3), 0},
		"the first game":                  {short(), run(0, 4), 1},
		"two games":                       {short(), run(0, 4, 1, 4), 1},
		"three games":                     {short(), run(0, 4, 1, 8), 2},
		"four games":                      {short(), toTwoAll, 2},
		"a set of two games":              {short(), run(0, 8), 1},
		"the first game of the next set":  {short(), run(0, 12), 2},
		"a match that ends with two":      {short(), run(0, 16), 2},
		"a set of five games":             {short(), append(run(0, 4, 1, 8, 0, 4), run(0, 3)...), 3},
		"five points of a tie-break":      {short(), append(run(0, 4, 1, 8, 0, 4), 0, 1, 0, 1, 0), 2},
		"six points of a tie-break":       {short(), append(run(0, 4, 1, 8, 0, 4), 0, 1, 0, 1, 0, 1), 3},
		"seven points of a tie-break":     {short(), append(run(0, 4, 1, 8, 0, 4), 0, 1, 0, 1, 0, 1, 0), 3},
		"twelve points of a tie-break":    {short(), append(run(0, 4, 1, 8, 0, 4), slices.Repeat([]int{0, 1}, 6)...), 4},
		"the six last points of one":      {short(), append(run(0, 4, 1, 8, 0, 4), 0, 1, 0, 1, 1, 1), 3},
		"the match, with an odd game":     {short(), run(0, 8, 1, 12), 2},
		"the match, with six points":      {one, run(1, 6), 0},
		"the match, behind six points":    {one, run(1, 5, 0, 2, 1, 1), 1},
		"six points of a game are no end": {short(), append(run(0, 4), slices.Repeat([]int{0, 1}, 3)...), 1},
	} {
		if s, e := score.Play(x.f, 0, x.points); e != api.OK || s.Ends != x.want {
			t.Errorf("%s: %d instead of %d, %d", name, s.Ends, x.want, e)
		}
	}
}

// fresh returns the numbers of the games that are over, and were begun with new balls.
func fresh(l []api.Game) []int {
	var out []int
	for n, g := range l {
		if g.Fresh {
			out = append(out, n)
		}
	}
	return out
}

// P1.2, P1.3: TestBalls: balls are changed by First and Then, and two games later if a tie-break comes instead.
func TestBalls(t *testing.T) {
	balls := func(first, then int) api.Format {
		return with(func(f *api.Format) { f.First, f.Then, f.Sets = first, then, 3 })
	}
	ties := func(first, then int) api.Format {
		return api.Format{Sets: 3, Games: 1, To: 1, LastTo: 1, First: first, Then: then}
	}
	// Games of the first set: 2 2, a tie-break (the game 4), then games of the side 1.
	sets := append(run(0, 4, 1, 8, 0, 4), run(0, 3, 1, 16, 0, 4)...)
	// Each game is a tie-break: those of the sides by turns.
	five := run(0, 2, 1, 2, 0, 2, 1, 2)
	for name, x := range map[string]struct {
		f      api.Format
		points []int
		want   []int
		balls  int
	}{
		"each second game":             {balls(2, 2), sets, []int{2, 6, 8}, 4},
		"each second game, one more":   {balls(2, 2), append(slices.Clone(sets), run(0, 4)...), []int{2, 6, 8, 10}, 4},
		"each game":                    {balls(1, 1), sets, []int{1, 2, 3, 5, 6, 7, 8, 9}, 9},
		"only once":                    {balls(3, 0), sets, []int{3}, 1},
		"only once, at the tie-break":  {balls(4, 0), sets, []int{6}, 1},
		"never":                        {balls(0, 2), sets, nil, 0},
		"before the first one":         {balls(7, 9), run(0, 4, 1, 8, 0, 4), nil, 0},
		"counted with the game before": {balls(4, 5), run(0, 12, 1, 4), []int{}, 1},
		"not counted with the point":   {balls(4, 5), run(0, 12, 1, 3), []int{}, 0},
		"tie-breaks only":              {ties(1, 0), five, []int{3}, 1},
		"tie-breaks one after another": {ties(1, 1), five, []int{3}, 2},
		"the match is over":            {ties(1, 1), append(slices.Clone(five), 0, 0), []int{3, 4}, 2},
		"not behind the match":         {short(), run(0, 16), []int{2}, 1},
	} {
		s, e := score.Play(x.f, 0, x.points)
		if e != api.OK || s.Balls != x.balls {
			t.Errorf("%s: %d instead of %d, %d", name, s.Balls, x.balls, e)
		}
		l, e := score.Games(x.f, 0, x.points)
		if e != api.OK || !slices.Equal(fresh(l), x.want) {
			t.Errorf("%s: %v instead of %v, %d", name, fresh(l), x.want, e)
		}
	}
}

// P1.3: TestGames: games with all that is known of them, as far as they are over.
func TestGames(t *testing.T) {
	for i, x := range []struct {
		f      api.Format
		first  int
		points []int
		want   []api.Game
	}{
		{short(), 0, nil, nil},
		{short(), 0, run(0, 3), nil},
		{short(), 1, run(0, 3, 1, 5, 0, 3), []api.Game{{Server: 1, Winner: 1, Points: pair(3, 5)}}},
		{short(), 0, run(0, 4, 1, 4, 0, 8, 1, 4), []api.Game{{Points: pair(4, 0)}, {Server: 1, Winner: 1, Points: pair(0, 4)}, {Points: pair(4, 0), Fresh: true}, {Server: 1, Points: pair(4, 0)}, {Set: 1, Winner: 1, Points: pair(0, 4), Fresh: true}}},
		{short(), 1, run(0, 8, 1, 8, 0, 2, 1, 4), []api.Game{{Server: 1, Points: pair(4, 0)}, {Points: pair(4, 0)}, {Set: 1, Server: 1, Winner: 1, Points: pair(0, 4), Fresh: true}, {Set: 1, Winner: 1, Points: pair(0, 4)}, {Set: 2, Tie: true, Server: 1, Winner: 1, Points: pair(2, 4)}}},
		{with(func(f *api.Format) { f.Doubles = true }), 1, run(0, 12), []api.Game{{Server: 1, Points: pair(4, 0)}, {Points: pair(4, 0)}, {Set: 1, Server: 3, Points: pair(4, 0), Fresh: true}}},
	} {
		if l, e := score.Games(x.f, x.first, x.points); e != api.OK || !slices.Equal(l, x.want) {
			t.Errorf("%d: Games = %v, %d", i, l, e)
		}
	}
}
