package referee_test

import (
	"fmt"
	"math/rand/v2"
	"reflect"
	"slices"
	"strings"
	"testing"

	"deuce/api"
	"deuce/bracket"
	"deuce/referee"
)

func span(low, high int) api.Span { return api.Span{Low: low, High: high} }

// sprint is a format of one tie-break to 2.
func sprint() api.Format { return api.Format{Sets: 1, Games: 1, Tie: -1, To: 1, LastTo: 2} }

// short is a format of two sets to two games without advantage, with a tie-break instead of a third set.
func short() api.Format {
	return api.Format{Sets: 2, Games: 2, NoAd: true, Tie: 1, To: 1, LastTie: 0, LastTo: 1}
}

// stages returns so many stages that can take half an hour to an hour, by the last day.
func stages(rounds int) []api.Stage {
	return slices.Repeat([]api.Stage{{Length: span(30, 60), Due: api.MaxDays - 1}}, rounds)
}

// example is D of the chapter's examples.
func example() api.Desk {
	return api.Desk{
		Field:  api.Field{Places: 3, Wilds: 1, Guards: 1, Close: 10, Freeze: 20},
		Tree:   api.Tree{Rounds: 1, Slots: []int{7, 8}},
		Format: sprint(),
		Days:   [][]api.Span{{span(600, 700)}},
		Stages: []api.Stage{{Length: span(30, 60)}},
	}
}

// with returns the example with something changed.
func with(change func(d *api.Desk)) api.Desk {
	d := example()
	change(&d)
	return d
}

// drawn returns the example with a draw of some slots, which must be played on one of two days with two courts.
func drawn(slots ...int) api.Desk {
	return with(func(d *api.Desk) {
		d.Tree = api.Tree{Slots: slots}
		for len(slots) > 1<<d.Tree.Rounds {
			d.Tree.Rounds++
		}
		d.Stages = stages(d.Tree.Rounds)
		d.Days = [][]api.Span{{span(600, 700), span(610, 710)}, {span(620, 720), span(630, 730)}}
	})
}

// four is a desk with the players 1 to 4.
func four() api.Desk { return drawn(1, 2, 3, 4) }

// numbered returns the slots of a draw of the players from 1 on, with so many rounds.
func numbered(rounds int) []int {
	var out []int
	for slot := range 1 << rounds {
		out = append(out, slot+1)
	}
	return out
}

// copied returns a desk that shares no memory with another one.
func copied(d api.Desk) api.Desk {
	d.Tree.Slots, d.Stages, d.Days = slices.Clone(d.Tree.Slots), slices.Clone(d.Stages), daysOf(d.Days)
	return d
}

// daysOf returns the same days as new memory.
func daysOf(days [][]api.Span) [][]api.Span {
	var out [][]api.Span
	for _, hours := range days {
		out = append(out, slices.Clone(hours))
	}
	return out
}

// copiedRegister returns a register that shares no memory with another one; it has nil for what is empty.
func copiedRegister(r api.Register) api.Register {
	r.Notices, r.Slips = append([]api.Notice(nil), r.Notices...), append([]api.Slip(nil), r.Slips...)
	r.Points, r.Days = append([]int(nil), r.Points...), daysOf(r.Days)
	return r
}

// same reports whether two registers are equal: nil and empty slices are.
func same(a, b api.Register) bool { return reflect.DeepEqual(copiedRegister(a), copiedRegister(b)) }

// beginning returns the register of a desk before the first line.
func beginning(d api.Desk) api.Register {
	return api.Register{Round: -1, Place: -1, Days: daysOf(d.Days)}
}

// run returns what Run says of a valid desk and a script.
func run(t *testing.T, d api.Desk, script []string) ([]string, api.Register) {
	t.Helper()
	answers, r, e := referee.Run(d, script)
	if e != api.OK || len(answers) != len(script) {
		t.Fatalf("Run of %q = %q, %d", script, answers, e)
	}
	return answers, r
}

// split returns the lines and the answers of texts like "main: 6 5", and of lists of them.
func split(told ...any) (script, answers []string) {
	for _, x := range told {
		switch x := x.(type) {
		case string:
			line, answer, _ := strings.Cut(x, ": ")
			script, answers = append(script, line), append(answers, answer)
		case []string:
			for _, line := range x {
				l, a := split(line)
				script, answers = append(script, l...), append(answers, a...)
			}
		}
	}
	return script, answers
}

// check checks the answers to some lines; both are in texts like "main: 6 5", and in lists of them. It returns the register.
func check(t *testing.T, d api.Desk, told ...any) api.Register {
	t.Helper()
	script, wanted := split(told...)
	answers, r := run(t, d, script)
	for i := range script {
		if answers[i] != wanted[i] {
			t.Errorf("%d: the answer to %q is %q, not %q", i, script[i], answers[i], wanted[i])
		}
	}
	return r
}

// times returns the same text so many times.
func times(n int, text string) []string { return slices.Repeat([]string{text}, n) }

// won returns a slip of a kind about a match.
func won(kind, round, place, player int) api.Slip {
	return api.Slip{Kind: kind, Round: round, Place: place, Player: player}
}

func lucky(slot, player, old int) api.Slip {
	return api.Slip{Kind: api.Lucky, Place: slot, Player: player, Old: old}
}

// random returns a source of the same numbers for the same seed.
func random(seed uint64) *rand.Rand { return rand.New(rand.NewPCG(seed, 12)) }

// randomFormat returns a format whose matches are mostly over soon.
func randomFormat(r *rand.Rand) api.Format {
	f := api.Format{Sets: 1 + r.IntN(2), Games: 1 + r.IntN(2), NoAd: r.IntN(2) == 0, To: 1 + r.IntN(3), LastTo: 1 + r.IntN(3), First: r.IntN(3), Then: r.IntN(3), Doubles: r.IntN(3) == 0}
	f.Tie = []int{-1, 0, 0, 0, f.Games - 1, f.Games}[r.IntN(6)]
	f.LastTie = []int{-1, 0, 0, 0, f.Games - 1, f.Games}[r.IntN(6)]
	return f
}

// randomTree returns a tree of so many rounds with some byes.
func randomTree(r *rand.Rand, rounds int) api.Tree {
	t := api.Tree{Rounds: rounds, Slots: r.Perm(60)[:1<<rounds]}
	byes := r.IntN(4)
	for match := range len(t.Slots) / 2 {
		if r.IntN(4) < byes {
			t.Slots[2*match+r.IntN(2)] = api.Bye
		}
	}
	return t
}

// randomDays returns the hours of some courts on some days: some have no room at all.
func randomDays(r *rand.Rand) [][]api.Span {
	var out [][]api.Span
	days, courts := 1+r.IntN(api.MaxDays), 1+r.IntN(api.MaxCourts)
	for range days {
		var hours []api.Span
		for range courts {
			low := r.IntN(700)
			hours = append(hours, span(low, low+r.IntN(400)))
		}
		out = append(out, hours)
	}
	return out
}

// randomDesk returns a desk with a draw of so many rounds.
func randomDesk(r *rand.Rand, rounds int) api.Desk {
	d := api.Desk{Tree: randomTree(r, rounds), Format: randomFormat(r), Days: randomDays(r), Rest: r.IntN(60)}
	d.Field = api.Field{Places: 1 + r.IntN(4), Wilds: r.IntN(3), Guards: r.IntN(3), Close: r.IntN(15)}
	d.Field.Freeze = d.Field.Close + r.IntN(10)
	for range rounds {
		low := 1 + r.IntN(100)
		d.Stages = append(d.Stages, api.Stage{Length: span(low, low+r.IntN(60)), Due: max(r.IntN(5)-2, 0)})
	}
	return d
}

// readyOf returns the matches that can be played.
func readyOf(t *testing.T, d api.Desk, r api.Register) []api.Bout {
	t.Helper()
	ready, e := bracket.Ready(d.Tree, r.Slips)
	if e != api.OK {
		t.Fatalf("Ready of %v, %v: %d", d.Tree, r.Slips, e)
	}
	return ready
}

// one returns one of some things.
func one[E any](r *rand.Rand, l ...E) E { return l[r.IntN(len(l))] }

// entryLine returns a line about entries.
func entryLine(r *rand.Rand, at api.Register) string {
	player := one(r, r.IntN(12), r.IntN(12), r.IntN(12), 998+r.IntN(3))
	switch r.IntN(12) {
	case 0, 1, 2:
		return fmt.Sprintf("enter %d %d", player, r.IntN(9))
	case 3:
		return fmt.Sprintf("guard %d %d", player, r.IntN(9))
	case 4:
		return fmt.Sprintf("stand %d", player)
	case 5:
		return fmt.Sprintf("hour %d", max(0, at.Hour+r.IntN(5)-1))
	case 6, 7, 8:
		return fmt.Sprintf("%s %d", one(r, "wild", "quit", "sign"), player)
	}
	return one(r, "main", "wilds", "out")
}

// matchLine returns a line about matches: mostly one that is not refused.
func matchLine(t *testing.T, r *rand.Rand, d api.Desk, at api.Register) string {
	t.Helper()
	ready := readyOf(t, d, at)
	if len(ready) == 0 || r.IntN(12) == 0 {
		return fmt.Sprintf(one(r, "point %[1]d", "retire %[1]d", "default %[1]d", "open %d %d %d", "walk %d %d %d"), r.IntN(2), r.IntN(3), r.IntN(60))
	}
	b := one(r, ready...)
	player := one(r, b.One, b.Two)
	switch n := r.IntN(12); {
	case n == 0:
		return fmt.Sprintf("walk %d %d %d", b.Round, b.Place, player)
	case n == 1 || n == 2 && at.Round == -1:
		slot := slices.Index(d.Tree.Slots, player)
		return fmt.Sprintf("lucky %d %d %d", max(slot, 0), r.IntN(80), player)
	case at.Round == -1:
		return fmt.Sprintf("open %d %d %d", b.Round, b.Place, r.IntN(2))
	case n == 3:
		return fmt.Sprintf("%s %d", one(r, "retire", "default"), r.IntN(2))
	case n == 4:
		return one(r, "score", "server")
	}
	return fmt.Sprintf("point %d", r.IntN(2))
}

// askLine returns a line that only asks about the draw, the open match or the courts.
func askLine(r *rand.Rand) string {
	switch r.IntN(3) {
	case 0:
		return fmt.Sprintf("%s %d %d", one(r, "winner", "may"), r.IntN(4), r.IntN(5))
	case 1:
		return one(r, "left", "score", "server")
	}
	return one(r, "jobs", "need", "stuck")
}

// wrongLine returns a line that is mostly none.
func wrongLine(r *rand.Rand) string {
	word := one(r, "", "main", "point", "open", "Point", "none", "hour", "enter", "close", "jobs")
	for range r.IntN(5) {
		word += one(r, " ", "  ", " 1", " 01", " 1000000", " 999999", " x", "1", " +1", " -1", "\t", "\n", "\xff")
	}
	return word
}

// randomLine returns a line that suits what is known.
func randomLine(t *testing.T, r *rand.Rand, d api.Desk, at api.Register) string {
	t.Helper()
	switch n := r.IntN(20); {
	case n == 0:
		return wrongLine(r)
	case n < 6:
		return entryLine(r, at)
	case n < 8:
		return askLine(r)
	case n == 8:
		low := r.IntN(800)
		return fmt.Sprintf("close %d %d %d %d", r.IntN(3), r.IntN(2), low, low+r.IntN(800)-50)
	}
	return matchLine(t, r, d, at)
}

// story is a desk and a script, with the answers, and the registers before its lines and behind the last one, by the chapter's words.
type story struct {
	d         api.Desk
	script    []string
	answers   []string
	registers []api.Register
}

// randomStory returns a story of so many rounds and lines.
func randomStory(t *testing.T, r *rand.Rand, rounds, lines int) story {
	t.Helper()
	s := story{d: randomDesk(r, rounds)}
	s.registers = []api.Register{beginning(s.d)}
	for at := s.registers[0]; len(s.script) < lines; s.registers = append(s.registers, at) {
		line := randomLine(t, r, s.d, at)
		var told string
		told, at = answerBy(t, s.d, at, line)
		s.script, s.answers = append(s.script, line), append(s.answers, told)
	}
	return s
}

// eachStory calls a function with random stories of up to so many lines.
func eachStory(t *testing.T, times uint64, lines int, do func(t *testing.T, r *rand.Rand, s story)) {
	t.Helper()
	for seed := range times {
		r := random(seed)
		s := randomStory(t, r, 1+int(seed)%api.MaxRounds, 1+r.IntN(lines))
		do(t, r, s)
		if t.Failed() {
			t.Fatalf("seed %d: %+v, %q", seed, s.d, s.script)
		}
	}
}

// count counts what is so.
func count(n *int, so bool) {
	if so {
		*n++
	}
}
