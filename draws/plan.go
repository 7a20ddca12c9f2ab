package draws

import (
	"cmp"
	"slices"

	"deuce/api"
)

// A plan has this size, or MaxSize.
const smallSize = 4

// plan is a plan that has been checked. Its entrants are its persons and, behind them, Bye; they are known by their indexes. order is these indexes, that of the lowest number first.
type plan struct {
	api.Plan
	entrants []api.Person
	order    []int
}

// open returns a plan that is checked now.
func open(p api.Plan) (plan, api.Errno) {
	if !validPlan(p) {
		return plan{}, api.ErrPlan
	}
	c := plan{Plan: p, entrants: append(slices.Clone(p.Persons), api.Person{Player: api.Bye})}
	for i := range c.entrants {
		c.order = append(c.order, i)
	}
	slices.SortFunc(c.order, func(a, b int) int { return cmp.Compare(c.entrants[a].Player, c.entrants[b].Player) })
	return c, api.OK
}

// openSheet returns a plan and a sheet that are checked now, the sheet as the indexes of those in its slots.
func openSheet(p api.Plan, sheet []int) (plan, []int, api.Errno) {
	c, e := open(p)
	if e != api.OK {
		return plan{}, nil, e
	}
	indexes, valid := c.indexes(sheet)
	if !valid {
		return plan{}, nil, api.ErrSheet
	}
	return c, indexes, api.OK
}

func within(n, low, high int) bool { return low <= n && n <= high }

func validPlan(p api.Plan) bool {
	if p.Size != smallSize && p.Size != api.MaxSize {
		return false
	}
	// Persons in half of the slots are at least two, and as many as can be seeded.
	half := p.Size / 2
	return within(len(p.Persons), half, p.Size) && within(p.Seeds, 0, half) && validPersons(p) && validLots(p.Lots)
}

// validPersons reports whether the persons of a plan, where there are enough of them, are valid.
func validPersons(p api.Plan) bool {
	known := map[int]bool{}
	for i, x := range p.Persons {
		seeded := i < p.Seeds
		if !within(x.Player, 0, api.MaxPlayer) || !within(x.Nation, 0, api.MaxNation) || known[x.Player] || seeded && x.Qualified {
			return false
		}
		known[x.Player] = true
	}
	return true
}

func validLots(lots []int) bool {
	invalid := func(lot int) bool { return !within(lot, 0, api.MaxLot) }
	return len(lots) <= api.MaxLots && !slices.ContainsFunc(lots, invalid)
}

// bye returns the index of Bye.
func (p plan) bye() int { return len(p.Persons) }

// byes returns how many slots have no person.
func (p plan) byes() int { return p.Size - len(p.Persons) }

// person returns the index of the person with a player, -1 if there is none.
func (p plan) person(player int) int {
	return slices.IndexFunc(p.Persons, func(x api.Person) bool { return x.Player == player })
}

// indexes returns the indexes of those in the slots of a sheet, and whether the sheet is valid.
func (p plan) indexes(sheet []int) (out []int, valid bool) {
	if len(sheet) != p.Size {
		return nil, false
	}
	for _, player := range sheet {
		i := slices.IndexFunc(p.entrants, func(x api.Person) bool { return x.Player == player })
		if i == -1 || i != p.bye() && slices.Contains(out, i) {
			return nil, false
		}
		out = append(out, i)
	}
	return out, true
}

// sheet returns the sheet with the players who have indexes.
func (p plan) sheet(indexes []int) []int {
	var out []int
	for _, i := range indexes {
		out = append(out, p.entrants[i].Player)
	}
	return out
}
