package bracket_test

import (
	"math/rand/v2"
	"reflect"
	"slices"
	"testing"

	"deuce/api"
	"deuce/bracket"
)

// three is T of the chapter's examples.
func three() api.Tree { return api.Tree{Rounds: 3, Slots: []int{1, -1, 2, 3, 4, 5, 6, 7}} }

// largest returns a tree of all rounds: the player n in the slot n, but for byes in the last two matches.
func largest() api.Tree {
	t := api.Tree{Rounds: api.MaxRounds}
	for slot := range 32 {
		t.Slots = append(t.Slots, slot)
	}
	t.Slots[28], t.Slots[31] = -1, -1
	return t
}

// slip returns a slip about a match.
func slip(kind, round, place, player int) api.Slip {
	return api.Slip{Kind: kind, Round: round, Place: place, Player: player}
}

func played(round, place, player int) api.Slip { return slip(api.Played, round, place, player) }

func lucky(slot, player, old int) api.Slip {
	return api.Slip{Kind: api.Lucky, Place: slot, Player: player, Old: old}
}

// example is L of the chapter's examples, with more slips behind.
func example(more ...api.Slip) []api.Slip {
	return append([]api.Slip{played(1, 0, 2), slip(api.Retired, 0, 3, 7), lucky(4, 8, 4)}, more...)
}

// place is the round and the place of a match.
type place struct{ round, place int }

// placesOf returns all matches of so many rounds, in their order.
func placesOf(rounds int) []place {
	var out []place
	for round := range rounds {
		for p := range 1 << (rounds - 1 - round) {
			out = append(out, place{round, p})
		}
	}
	return out
}

// course is the winners of all matches, by rounds and places.
type course [api.MaxRounds][1 << (api.MaxRounds - 1)]int

func newCourse() course {
	var c course
	for round := range c {
		for p := range c[round] {
			c[round][p] = api.Unknown
		}
	}
	return c
}

// winner returns who wins a match in a course.
func (c *course) winner(m place) int { return c[m.round][m.place] }

// sides returns the players of a match in a course.
func (c *course) sides(slots []int, m place) [2]int {
	if m.round == 0 {
		return [2]int{slots[2*m.place], slots[2*m.place+1]}
	}
	return [2]int{c[m.round-1][2*m.place], c[m.round-1][2*m.place+1]}
}

// choices returns who of the players of a match can win it.
func choices(sides [2]int) []int {
	return slices.DeleteFunc(sides[:], func(player int) bool { return player == api.Bye })
}

// coursesBy returns all courses of a draw in which slips tell the truth. Slips about matches are looked at only.
func coursesBy(rounds int, slots []int, l []api.Slip) []course {
	told := map[place]int{}
	for _, s := range l {
		if s.Kind != api.Lucky {
			told[place{s.Round, s.Place}] = s.Player
		}
	}
	all := []course{newCourse()}
	for _, m := range placesOf(rounds) {
		var longer []course
		for _, c := range all {
			for _, player := range choices(c.sides(slots, m)) {
				if winner, is := told[m]; is && winner != player {
					continue
				}
				c[m.round][m.place] = player
				longer = append(longer, c)
			}
		}
		all = longer
	}
	return all
}

// slotsBy returns who has the slots when all lucky losers have come, and whether the slips about them agree.
func slotsBy(t api.Tree, l []api.Slip) (slots []int, agree bool) {
	slots = slices.Clone(t.Slots)
	var waiting []api.Slip
	for _, s := range l {
		if s.Kind == api.Lucky && !slices.Contains(waiting, s) {
			waiting = append(waiting, s)
		}
	}
	there := slices.Clone(t.Slots)
	for len(waiting) > 0 {
		i := slices.IndexFunc(waiting, func(s api.Slip) bool { return slots[s.Place] == s.Old })
		if i == -1 || slices.Contains(there, waiting[i].Player) {
			return nil, false
		}
		slots[waiting[i].Place] = waiting[i].Player
		there = append(there, waiting[i].Player)
		waiting = slices.Delete(waiting, i, i+1)
	}
	return slots, true
}

// openBy returns who has the slots, and all courses, and whether slips that are as described agree.
func openBy(t api.Tree, l []api.Slip) (slots []int, courses []course, agree bool) {
	for i, a := range l {
		for _, b := range l[:i] {
			same := a.Round == b.Round && a.Place == b.Place && a.Kind != api.Lucky && b.Kind != api.Lucky
			if same && a != b {
				return nil, nil, false
			}
		}
	}
	slots, agree = slotsBy(t, l)
	if !agree {
		return nil, nil, false
	}
	courses = coursesBy(t.Rounds, slots, l)
	return slots, courses, len(courses) > 0
}

// number is a number, or an error.
type number struct {
	n int
	e api.Errno
}

// reach is a span, or an error.
type reach struct {
	span api.Span
	e    api.Errno
}

// answers is all that is so in a draw, about matches and some players.
type answers struct {
	bouts, ready []api.Bout
	left         int
	winner       map[place]number
	may          map[place][]int
	reached      map[int]reach
	meet         map[[2]int]number
}

func noAnswers() answers {
	return answers{winner: map[place]number{}, may: map[place][]int{}, reached: map[int]reach{}, meet: map[[2]int]number{}}
}

// answersOf returns what the functions answer.
func answersOf(t *testing.T, tree api.Tree, l []api.Slip, players []int) answers {
	t.Helper()
	out := noAnswers()
	if e := bracket.Check(tree, l); e != api.OK {
		t.Fatalf("Check of %v, %v: %d", tree, l, e)
	}
	var bouts, ready, left api.Errno
	out.bouts, bouts = bracket.Bouts(tree, l)
	out.ready, ready = bracket.Ready(tree, l)
	out.left, left = bracket.Left(tree, l)
	if bouts != api.OK || ready != api.OK || left != api.OK {
		t.Fatalf("Bouts: %d, Ready: %d, Left: %d", bouts, ready, left)
	}
	for _, m := range placesOf(tree.Rounds) {
		n, e := bracket.Winner(tree, l, m.round, m.place)
		out.winner[m] = number{n, e}
		may, e := bracket.May(tree, l, m.round, m.place)
		if e != api.OK {
			t.Fatalf("May of %v: %d", m, e)
		}
		out.may[m] = may
	}
	for i, a := range players {
		span, e := bracket.Reached(tree, l, a)
		out.reached[a] = reach{span, e}
		for _, b := range players[i:] {
			n, e := bracket.Meet(tree, l, a, b)
			out.meet[[2]int{a, b}] = number{n, e}
		}
	}
	return out
}

// answersBy returns what is so by the chapter's words, in all courses.
func answersBy(rounds int, slots []int, courses []course, players []int) answers {
	out := noAnswers()
	for _, m := range placesOf(rounds) {
		b := api.Bout{Round: m.round, Place: m.place, One: sureBy(courses, slots, m, 0), Two: sureBy(courses, slots, m, 1)}
		out.bouts = append(out.bouts, b)
		may := mayBy(courses, m)
		out.may[m] = may
		out.winner[m] = number{0, api.ErrNone}
		if len(may) == 1 {
			out.winner[m] = number{may[0], api.OK}
			continue
		}
		out.left++
		if b.One >= 0 && b.Two >= 0 {
			out.ready = append(out.ready, b)
		}
	}
	for i, a := range players {
		out.reached[a] = reachedBy(courses, slots, a)
		for _, b := range players[i:] {
			out.meet[[2]int{a, b}] = meetBy(courses, slots, placesOf(rounds), a, b)
		}
	}
	return out
}

// sureBy returns who is on a side of a match in all courses.
func sureBy(courses []course, slots []int, m place, side int) int {
	player := courses[0].sides(slots, m)[side]
	for _, c := range courses {
		if c.sides(slots, m)[side] != player {
			return api.Unknown
		}
	}
	return player
}

// mayBy returns who wins a match in some courses.
func mayBy(courses []course, m place) []int {
	var out []int
	for _, c := range courses {
		if !slices.Contains(out, c.winner(m)) {
			out = append(out, c.winner(m))
		}
	}
	slices.Sort(out)
	return out
}

// winsBy returns how many matches a player wins in a course.
func winsBy(c course, player int) int {
	n := 0
	for _, winners := range c {
		for _, winner := range winners {
			if winner == player {
				n++
			}
		}
	}
	return n
}

// reachedBy returns how many matches a player wins in the courses.
func reachedBy(courses []course, slots []int, player int) reach {
	if !slices.Contains(slots, player) {
		return reach{api.Span{}, api.ErrNone}
	}
	n := winsBy(courses[0], player)
	span := api.Span{Low: n, High: n}
	for _, c := range courses {
		n := winsBy(c, player)
		span.Low, span.High = min(span.Low, n), max(span.High, n)
	}
	return reach{span, api.OK}
}

// meetBy returns the round in which two players meet in some course.
func meetBy(courses []course, slots []int, all []place, a, b int) number {
	if a == b {
		return number{0, api.ErrArg}
	}
	for _, c := range courses {
		for _, m := range all {
			sides := c.sides(slots, m)
			if sides == [2]int{a, b} || sides == [2]int{b, a} {
				return number{m.round, api.OK}
			}
		}
	}
	return number{0, api.ErrNone}
}

// equal checks that answers are the same.
func equal(t *testing.T, name string, got, wanted answers) {
	t.Helper()
	if !reflect.DeepEqual(got, wanted) {
		t.Errorf("%s: %+v\ninstead of %+v", name, got, wanted)
	}
}

// random returns a source of the same numbers for the same seed.
func random(seed uint64) *rand.Rand { return rand.New(rand.NewPCG(seed, 7)) }

// story is a tree, a course of it after lucky losers came, and slips that are true of it; players is all of them, those who left, and two who never come.
type story struct {
	tree    api.Tree
	slots   []int
	course  course
	slips   []api.Slip
	players []int
}

// randomStory returns a story of so many rounds.
func randomStory(r *rand.Rand, rounds int) story {
	size := 1 << rounds
	s := story{tree: api.Tree{Rounds: rounds}, course: newCourse()}
	numbers := r.Perm(api.MaxPlayer + 1)
	byes, leaves, told := r.IntN(4), r.IntN(4), r.IntN(11)
	s.tree.Slots, numbers = numbers[:size:size], numbers[size:]
	for match := range size / 2 {
		if r.IntN(10) < byes {
			s.tree.Slots[2*match+r.IntN(2)] = api.Bye
		}
	}
	s.slots = slices.Clone(s.tree.Slots)
	for len(s.slips) < 6 && r.IntN(4) < leaves {
		slot := r.IntN(size)
		if s.slots[slot] != api.Bye {
			s.slips = append(s.slips, lucky(slot, numbers[0], s.slots[slot]))
			s.slots[slot], numbers = numbers[0], numbers[1:]
		}
	}
	for _, m := range placesOf(rounds) {
		sides := s.course.sides(s.slots, m)
		can := choices(sides)
		s.course[m.round][m.place] = can[r.IntN(len(can))]
		if len(can) == 2 && r.IntN(10) < told {
			s.slips = append(s.slips, slip(api.Played+r.IntN(4), m.round, m.place, s.course.winner(m)))
		}
	}
	s.players = append(playersOf(s.tree.Slots, s.slips), numbers[0], numbers[1])
	r.Shuffle(len(s.slips), func(i, j int) { s.slips[i], s.slips[j] = s.slips[j], s.slips[i] })
	return s
}

// playersOf returns who is in slots, and all lucky losers.
func playersOf(slots []int, l []api.Slip) []int {
	out := slices.DeleteFunc(slices.Clone(slots), func(player int) bool { return player == api.Bye })
	for _, s := range l {
		if s.Kind == api.Lucky {
			out = append(out, s.Player)
		}
	}
	return out
}

// eachStory calls a function with stories of 1 to so many rounds.
func eachStory(t *testing.T, times uint64, rounds int, do func(t *testing.T, r *rand.Rand, s story)) {
	t.Helper()
	for seed := range times {
		r := random(seed)
		s := randomStory(r, 1+int(seed)%rounds)
		do(t, r, s)
		if t.Failed() {
			t.Fatalf("seed %d: %+v", seed, s)
		}
	}
}

// bye reports whether a match of a tree has a bye.
func (s story) bye(m place) bool {
	return m.round == 0 && slices.Contains(s.tree.Slots[2*m.place:2*m.place+2], api.Bye)
}

// told reports whether a slip is about a match.
func (s story) told(m place) bool {
	return slices.ContainsFunc(s.slips, func(x api.Slip) bool { return x.Kind != api.Lucky && x.Round == m.round && x.Place == m.place })
}
