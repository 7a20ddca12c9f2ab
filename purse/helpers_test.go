package purse_test

import (
	"maps"
	"math/rand/v2"
	"reflect"
	"slices"
	"testing"

	"deuce/api"
	"deuce/bracket"
	"deuce/purse"
)

func span(low, high int) api.Span { return api.Span{Low: low, High: high} }

// won returns a slip that a player won a match.
func won(round, place, player int) api.Slip {
	return api.Slip{Kind: api.Played, Round: round, Place: place, Player: player}
}

func lucky(slot, player, old int) api.Slip {
	return api.Slip{Kind: api.Lucky, Place: slot, Player: player, Old: old}
}

func fine(id, person, cents int) api.Item {
	return api.Item{Id: id, Kind: api.Fine, Person: person, Amount: cents}
}

func stay(id, person, days int) api.Item {
	return api.Item{Id: id, Kind: api.Stay, Person: person, Amount: days}
}

// paid returns payments of persons and units.
func paid(l ...int) []api.Payment {
	var out []api.Payment
	for pair := range slices.Chunk(l, 2) {
		out = append(out, api.Payment{Person: pair[0], Units: pair[1]})
	}
	return out
}

// example is P of the chapter's examples.
func example() api.Purse {
	return api.Purse{
		Tree:   api.Tree{Rounds: 2, Slots: []int{1, 2, 3, 4}},
		Slips:  []api.Slip{won(0, 0, 1)},
		Prizes: []int{100, 300, 1001},
		Daily:  40,
		Teams:  []api.Team{{Player: 1, One: 11, Two: 12}, {Player: 2, One: 21, Two: 22}, {Player: 3, One: 31, Two: -1}, {Player: 4, One: 41, Two: -1}},
		Levies: []api.Levy{{Person: 11, Mille: 250}},
		Rates:  []api.Rate{{Person: 21, Num: 3, Den: 2}, {Person: 22, Num: 1, Den: 3}},
		Items:  []api.Item{fine(1, 21, 30), stay(2, 11, 2), fine(3, 31, 160)},
	}
}

// with returns the example with something changed.
func with(change func(p *api.Purse)) api.Purse {
	p := example()
	change(&p)
	return p
}

// largest returns a purse in which all is as much as it can be: 32 players, of whom 28 have left, all results, 64 teams of two, and all items, which are of the champion's Two, 935.
func largest() api.Purse {
	p := api.Purse{Tree: api.Tree{Rounds: api.MaxRounds}, Prizes: slices.Repeat([]int{api.MaxCents}, api.MaxRounds+1), Daily: api.MaxDaily}
	for i := range 64 {
		p.Teams = append(p.Teams, api.Team{Player: api.MaxPlayer - i, One: 2 * i, Two: api.MaxPerson - 2*i})
	}
	var now []int
	for slot := range 32 {
		player := api.MaxPlayer - slot
		p.Tree.Slots = append(p.Tree.Slots, player)
		if slot < 28 {
			player -= 32
			p.Slips = append(p.Slips, lucky(slot, player, p.Tree.Slots[slot]))
		}
		now = append(now, player)
	}
	for round := range api.MaxRounds {
		for place := range 32 >> (round + 1) {
			p.Slips = append(p.Slips, won(round, place, now[place<<(round+1)]))
		}
	}
	p.Slips = append(p.Slips, p.Slips[0])
	for _, person := range personsOf(p) {
		p.Levies = append(p.Levies, api.Levy{Person: person, Mille: api.MaxMille})
		p.Rates = append(p.Rates, api.Rate{Person: person, Num: api.MaxRate, Den: 1})
	}
	for id := range api.MaxItems {
		p.Items = append(p.Items, stay(99-id, 935, api.MaxStay))
	}
	return p
}

// copied returns a purse that shares no memory with another one.
func copied(p api.Purse) api.Purse {
	p.Tree.Slots, p.Slips, p.Prizes = slices.Clone(p.Tree.Slots), slices.Clone(p.Slips), slices.Clone(p.Prizes)
	p.Teams, p.Levies, p.Rates, p.Items = slices.Clone(p.Teams), slices.Clone(p.Levies), slices.Clone(p.Rates), slices.Clone(p.Items)
	return p
}

// same reports whether two purses are equal: nil and empty slices are.
func same(a, b api.Purse) bool {
	return a.Tree.Rounds == b.Tree.Rounds && a.Daily == b.Daily && slices.Equal(a.Tree.Slots, b.Tree.Slots) && slices.Equal(a.Slips, b.Slips) && slices.Equal(a.Prizes, b.Prizes) &&
		slices.Equal(a.Teams, b.Teams) && slices.Equal(a.Levies, b.Levies) && slices.Equal(a.Rates, b.Rates) && slices.Equal(a.Items, b.Items)
}

// personsOf returns all persons of a purse, in ascending order.
func personsOf(p api.Purse) []int {
	var out []int
	for _, t := range p.Teams {
		out = append(out, t.One)
		if t.Two != -1 {
			out = append(out, t.Two)
		}
	}
	slices.Sort(out)
	return out
}

// answers is what all functions tell of a purse, but for Merge and Pay.
type answers struct {
	pool  int
	gross map[int]api.Span
	bills []api.Bill
	total api.Bill
}

// answersOf returns what all functions tell of a valid purse; Bill and Bills tell the same.
func answersOf(t *testing.T, p api.Purse) answers {
	t.Helper()
	a := answers{gross: map[int]api.Span{}}
	var errors [5]api.Errno
	errors[0] = purse.Check(p)
	a.pool, errors[1] = purse.Pool(p)
	a.bills, errors[2] = purse.Bills(p)
	a.total, errors[3] = purse.Total(p)
	for i, person := range personsOf(p) {
		a.gross[person], errors[4] = purse.Gross(p, person)
		bill, e := purse.Bill(p, person)
		if e != api.OK || i >= len(a.bills) || bill != a.bills[i] || bill.Person != person {
			t.Fatalf("Bill of %d = %v, %d, Bills = %v", person, bill, e, a.bills)
		}
	}
	if errors != [5]api.Errno{} || len(a.bills) != len(a.gross) {
		t.Fatalf("errors %v, Bills = %v", errors, a.bills)
	}
	return a
}

// equal checks that answers are the same.
func equal(t *testing.T, name string, got, wanted answers) {
	t.Helper()
	if !reflect.DeepEqual(got, wanted) {
		t.Errorf("%s: %+v\ninstead of %+v", name, got, wanted)
	}
}

// payOf returns what Pay says of a valid purse and payments, by persons.
func payOf(t *testing.T, p api.Purse, before []api.Payment) (pay, over []api.Payment) {
	t.Helper()
	pay, over, e := purse.Pay(p, before)
	if e != api.OK {
		t.Fatalf("Pay of %v: %d", before, e)
	}
	return pay, over
}

// merged returns a purse with more slips and items.
func merged(t *testing.T, p api.Purse, slips []api.Slip, items []api.Item) api.Purse {
	t.Helper()
	m, e := purse.Merge(p, slips, items)
	if e != api.OK {
		t.Fatalf("Merge of %v, %v: %d", slips, items, e)
	}
	return m
}

// winsBy returns how many matches each player of a draw has surely won, match by match; those who have left are not among them.
func winsBy(t *testing.T, p api.Purse) map[int]int {
	t.Helper()
	bouts, e := bracket.Bouts(p.Tree, p.Slips)
	if e != api.OK {
		t.Fatalf("Bouts: %d", e)
	}
	wins := map[int]int{}
	for _, b := range bouts[:len(p.Tree.Slots)/2] {
		wins[b.One], wins[b.Two] = 0, 0
	}
	delete(wins, api.Bye)
	for _, b := range bouts {
		if player, e := bracket.Winner(p.Tree, p.Slips, b.Round, b.Place); e == api.OK {
			wins[player]++
		}
	}
	return wins
}

// prizeOf returns the prize for the matches that a player has surely won: 0 for who is not in the draw.
func prizeOf(p api.Purse, wins map[int]int, player int) int {
	n, in := wins[player]
	if !in {
		return 0
	}
	return p.Prizes[n]
}

// grossBy returns the gross of all persons for the matches that were surely won, by the chapter's words.
func grossBy(t *testing.T, p api.Purse) map[int]int {
	t.Helper()
	out, wins := map[int]int{}, winsBy(t, p)
	for _, x := range p.Teams {
		prize := prizeOf(p, wins, x.Player)
		switch {
		case x.Two == -1:
			out[x.One] = prize
		case prize%2 == 1:
			out[x.One], out[x.Two] = (prize+1)/2, (prize-1)/2
		default:
			out[x.One], out[x.Two] = prize/2, prize/2
		}
	}
	return out
}

// next returns the first match of a purse that is ready, and whether there is one.
func next(t *testing.T, p api.Purse) (api.Bout, bool) {
	t.Helper()
	ready, e := bracket.Ready(p.Tree, p.Slips)
	if e != api.OK {
		t.Fatalf("Ready: %d", e)
	}
	if len(ready) == 0 {
		return api.Bout{}, false
	}
	return ready[0], true
}

// ended returns a purse with results of a random course, none of which is missing.
func ended(t *testing.T, r *rand.Rand, p api.Purse) api.Purse {
	t.Helper()
	p = copied(p)
	for {
		b, ready := next(t, p)
		if !ready {
			return p
		}
		p.Slips = append(p.Slips, won(b.Round, b.Place, []int{b.One, b.Two}[r.IntN(2)]))
	}
}

// eachEnd calls a function with a purse at the end of each course.
func eachEnd(t *testing.T, p api.Purse, do func(p api.Purse)) {
	t.Helper()
	b, ready := next(t, p)
	if !ready {
		do(p)
		return
	}
	for _, player := range []int{b.One, b.Two} {
		more := copied(p)
		more.Slips = append(more.Slips, won(b.Round, b.Place, player))
		eachEnd(t, more, do)
	}
}

// random returns a source of the same numbers for the same seed.
func random(seed uint64) *rand.Rand { return rand.New(rand.NewPCG(seed, 10)) }

// randomTree returns a tree of so many rounds with some byes, and numbers that are not in it.
func randomTree(r *rand.Rand, rounds int) (t api.Tree, others []int) {
	numbers, size, byes := r.Perm(api.MaxPlayer+1), 1<<rounds, r.IntN(5)
	t = api.Tree{Rounds: rounds, Slots: numbers[:size:size]}
	for match := range size / 2 {
		if r.IntN(10) < byes {
			t.Slots[2*match+r.IntN(2)] = api.Bye
		}
	}
	return t, numbers[size:]
}

// randomTeams returns teams of one and two for players.
func randomTeams(r *rand.Rand, players []int) []api.Team {
	var out []api.Team
	persons, doubles := r.Perm(api.MaxPerson+1), r.IntN(5)
	for i, player := range players {
		x := api.Team{Player: player, One: persons[2*i], Two: persons[2*i+1]}
		if r.IntN(4) < doubles {
			x.Two = -1
		}
		out = append(out, x)
	}
	r.Shuffle(len(out), func(i, j int) { out[i], out[j] = out[j], out[i] })
	return out
}

// randomPurse returns a purse of a tree with so many rounds, with some lucky losers, some of the results of a course, and some players who are not in the draw.
func randomPurse(t *testing.T, r *rand.Rand, rounds int) api.Purse {
	t.Helper()
	tree, others := randomTree(r, rounds)
	p := api.Purse{Tree: tree, Daily: r.IntN(60)}
	now := slices.Clone(tree.Slots)
	comes := r.IntN(4)
	for slot, player := range now {
		if player != api.Bye && r.IntN(8) < comes {
			p.Slips = append(p.Slips, lucky(slot, others[0], player))
			now[slot], others = others[0], others[1:]
		}
	}
	players := slices.DeleteFunc(slices.Clone(tree.Slots), func(player int) bool { return player == api.Bye })
	for _, s := range p.Slips {
		players = append(players, s.Player)
	}
	p.Teams = randomTeams(r, append(players, others[:r.IntN(3)]...))
	for prize := 0; len(p.Prizes) <= rounds; prize += r.IntN(1000) * r.IntN(2) {
		p.Prizes = append(p.Prizes, prize+r.IntN(2))
		prize = p.Prizes[len(p.Prizes)-1]
	}
	told := r.IntN(11)
	p.Slips = slices.DeleteFunc(ended(t, r, p).Slips, func(s api.Slip) bool { return s.Kind != api.Lucky && r.IntN(10) >= told })
	for _, person := range personsOf(p) {
		if r.IntN(2) == 0 {
			p.Levies = append(p.Levies, api.Levy{Person: person, Mille: r.IntN(api.MaxMille + 1)})
		}
		if r.IntN(2) == 0 {
			p.Rates = append(p.Rates, api.Rate{Person: person, Num: 1 + r.IntN(1+r.IntN(200)), Den: 1 + r.IntN(1+r.IntN(200))})
		}
	}
	p.Items = randomItems(r, personsOf(p), r.IntN(12))
	return p
}

// randomItems returns so many different items, and some of them again.
func randomItems(r *rand.Rand, persons []int, count int) []api.Item {
	var out []api.Item
	for _, id := range r.Perm(100)[:count] {
		person := persons[r.IntN(len(persons))]
		if r.IntN(2) == 0 {
			out = append(out, fine(id, person, r.IntN(900)))
		} else {
			out = append(out, stay(id, person, r.IntN(api.MaxStay+1)))
		}
		if r.IntN(4) == 0 {
			out = append(out, out[r.IntN(len(out))])
		}
	}
	return out
}

// eachPurse calls a function with random purses of 1 to so many rounds.
func eachPurse(t *testing.T, times uint64, rounds int, do func(t *testing.T, r *rand.Rand, p api.Purse)) {
	t.Helper()
	for seed := range times {
		r := random(seed)
		p := randomPurse(t, r, 1+int(seed)%rounds)
		do(t, r, p)
		if t.Failed() {
			t.Fatalf("seed %d: %+v", seed, p)
		}
	}
}

// unitsOf returns all units of payments, by persons.
func unitsOf(l []api.Payment) map[int]int {
	out := map[int]int{}
	for _, p := range l {
		out[p.Person] += p.Units
	}
	return out
}

// differentItems returns each of some items once, in the order of their Ids.
func differentItems(l []api.Item) []api.Item {
	byId := map[int]api.Item{}
	for _, i := range l {
		byId[i.Id] = i
	}
	var out []api.Item
	for _, id := range slices.Sorted(maps.Keys(byId)) {
		out = append(out, byId[id])
	}
	return out
}
