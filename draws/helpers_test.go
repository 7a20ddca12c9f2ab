package draws_test

import (
	"math/rand/v2"
	"slices"
	"testing"

	"deuce/api"
	"deuce/draws"
)

// four is P of the chapter's examples.
func four() api.Plan {
	return api.Plan{Size: 4, Seeds: 1, Persons: []api.Person{{Player: 10, Nation: 1}, {Player: 20, Nation: 2}, {Player: 30, Nation: 1}}, Lots: []int{5, 4}}
}

// open is R of the chapter's examples: nobody is seeded.
func open() api.Plan {
	return api.Plan{Size: 4, Persons: []api.Person{{Player: 1, Nation: 1}, {Player: 2, Nation: 1}, {Player: 3, Nation: 2}, {Player: 4}}}
}

// eight is Q of the chapter's examples.
func eight() api.Plan { return plain(8, 4, 6) }

// plain returns a plan of persons without nations, the players 1, 2 and so on.
func plain(size, seeds, persons int) api.Plan {
	p := api.Plan{Size: size, Seeds: seeds}
	for i := range persons {
		p.Persons = append(p.Persons, api.Person{Player: i + 1})
	}
	return p
}

// with returns a plan with something changed.
func with(p api.Plan, change func(p *api.Plan)) api.Plan {
	change(&p)
	return p
}

func copied(p api.Plan) api.Plan {
	p.Persons, p.Lots = slices.Clone(p.Persons), slices.Clone(p.Lots)
	return p
}

// same reports whether two plans are equal.
func same(a, b api.Plan) bool {
	return a.Size == b.Size && a.Seeds == b.Seeds && slices.Equal(a.Persons, b.Persons) && slices.Equal(a.Lots, b.Lots)
}

// players returns the players of a plan, in its order.
func players(p api.Plan) []int {
	var out []int
	for _, x := range p.Persons {
		out = append(out, x.Player)
	}
	return out
}

// random returns a source of the same numbers for the same seed.
func random(seed uint64) *rand.Rand { return rand.New(rand.NewPCG(seed, 6)) }

// randomPlan returns a plan of a size with few nations.
func randomPlan(r *rand.Rand, size int) api.Plan {
	p := api.Plan{Size: size, Seeds: r.IntN(size/2 + 1)}
	nations, qualified := 1+r.IntN(api.MaxNation+1), r.IntN(5)
	numbers := r.Perm(api.MaxPlayer + 1)
	for i := range size - r.IntN(size/2+1) {
		x := api.Person{Player: numbers[i], Nation: r.IntN(nations)}
		x.Qualified = i >= p.Seeds && r.IntN(10) < qualified
		p.Persons = append(p.Persons, x)
	}
	for range r.IntN(api.MaxLots + 1) {
		p.Lots = append(p.Lots, r.IntN(api.MaxLot+1))
	}
	return p
}

// eachPlan calls a function with plans, so many of the size 4, and a fourth of them more of the size 8.
func eachPlan(t *testing.T, times uint64, do func(t *testing.T, r *rand.Rand, p api.Plan)) {
	t.Helper()
	for seed := range times + times/4 {
		r := random(seed)
		size := 4
		if seed >= times {
			size = 8
		}
		p := randomPlan(r, size)
		if e := draws.Check(p); e != api.OK {
			t.Fatalf("seed %d: Check = %d of %v", seed, e, p)
		}
		do(t, r, p)
		if t.Failed() {
			t.Fatalf("seed %d: %+v", seed, p)
		}
	}
}

// sheetsBy returns all sheets in which each person has a slot, in the order of their slots.
func sheetsBy(p api.Plan) [][]int {
	sheets := [][]int{nil}
	numbers := append(players(p), -1)
	slices.Sort(numbers)
	for range p.Size {
		var longer [][]int
		for _, sheet := range sheets {
			for _, number := range numbers {
				used := slices.Contains(sheet, number)
				if number == -1 {
					used = times(sheet, -1) == p.Size-len(p.Persons)
				}
				if !used {
					longer = append(longer, append(slices.Clone(sheet), number))
				}
			}
		}
		sheets = longer
	}
	return sheets
}

// times returns how often a number is in a list.
func times(l []int, n int) int {
	many := 0
	for _, x := range l {
		if x == n {
			many++
		}
	}
	return many
}

// drawsBy returns all draws that obey, by the chapter's words.
func drawsBy(p api.Plan) [][]int {
	return slices.DeleteFunc(sheetsBy(p), func(sheet []int) bool { return !obeysBy(p, sheet) })
}

// obeysBy reports whether a sheet obeys, rule by rule.
func obeysBy(p api.Plan, sheet []int) bool {
	for _, player := range players(p) {
		if times(sheet, player) != 1 {
			return false
		}
	}
	return seedsObey(p, sheet) && byesObey(p, sheet) && len(breaksBy(p, sheet)) == 0
}

// seedsObey reports whether the seeds of a sheet with all persons have their slots.
func seedsObey(p api.Plan, sheet []int) bool {
	at := func(seed int) int { return slices.Index(sheet, p.Persons[seed-1].Player) }
	switch {
	case p.Seeds >= 1 && at(1) != 0, p.Seeds >= 2 && at(2) != p.Size-1:
		return false
	case p.Seeds == 3:
		return at(3) == 2 || at(3) == 5
	case p.Seeds == 4:
		return at(3) == 2 && at(4) == 5 || at(3) == 5 && at(4) == 2
	}
	return true
}

// facedBy returns who faces whom in a sheet: Bye (-1) can be faced more than once.
func facedBy(sheet []int) map[int][]int {
	out := map[int][]int{}
	for slot := 0; slot < len(sheet); slot += 2 {
		a, b := sheet[slot], sheet[slot+1]
		out[a] = append(out[a], b)
		out[b] = append(out[b], a)
	}
	return out
}

// byesObey reports whether the byes of a sheet with all persons face whom they must.
func byesObey(p api.Plan, sheet []int) bool {
	byes := p.Size - len(p.Persons)
	facing := facedBy(sheet)[-1]
	if len(facing) != byes || slices.Contains(facing, -1) {
		return false
	}
	for i, player := range players(p) {
		faces := slices.Contains(facing, player)
		switch {
		case i < p.Seeds && i < byes && !faces:
			return false
		case byes <= p.Seeds && i >= byes && faces:
			return false
		}
	}
	return true
}

// personBy returns the person with a player; none is one without a nation.
func personBy(p api.Plan, player int) api.Person {
	for _, x := range p.Persons {
		if x.Player == player {
			return x
		}
	}
	return api.Person{Player: -1}
}

// breaksBy returns the first matches of two byes, of one nation, or of two qualifiers.
func breaksBy(p api.Plan, sheet []int) []int {
	var out []int
	for match := 0; 2*match < len(sheet); match++ {
		a, b := personBy(p, sheet[2*match]), personBy(p, sheet[2*match+1])
		switch {
		case a.Player == -1 && b.Player == -1, a.Qualified && b.Qualified, a.Nation > 0 && a.Nation == b.Nation:
			out = append(out, match)
		}
	}
	return out
}

// countOf returns the number of all draws that obey.
func countOf(t *testing.T, p api.Plan) int {
	t.Helper()
	n, e := draws.Count(p)
	if e != api.OK {
		t.Fatalf("Count of %v: %d", p, e)
	}
	return n
}

// facingOf returns whom a player faces how often.
func facingOf(t *testing.T, p api.Plan, player int) []int {
	t.Helper()
	l, e := draws.Facing(p, player)
	if e != api.OK {
		t.Fatalf("Facing of %v and %d: %d", p, player, e)
	}
	return l
}

// drawn is what Draw answers.
type drawn struct {
	sheet []int
	e     api.Errno
}

func draw(p api.Plan) drawn {
	sheet, e := draws.Draw(p)
	return drawn{sheet, e}
}

func (d drawn) equal(other drawn) bool { return d.e == other.e && slices.Equal(d.sheet, other.sheet) }
