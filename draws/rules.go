package draws

import (
	"slices"

	"deuce/api"
)

// complete reports whether each person has a slot.
func (p plan) complete(indexes []int) bool {
	for i := range p.Persons {
		if !slices.Contains(indexes, i) {
			return false
		}
	}
	return true
}

// obeys reports whether a draw obeys.
func (p plan) obeys(indexes []int) bool {
	for slot, i := range indexes {
		if !p.fits(indexes[:slot], i) {
			return false
		}
	}
	return p.complete(indexes)
}

// fits reports whether an entrant may have the next slot behind others.
func (p plan) fits(before []int, i int) bool {
	slot := len(before)
	second := slot%2 == 1
	return p.mayHave(i, slot) && (!second || p.mayFace(before[slot-1], i))
}

// mayHave reports whether an entrant may have a slot. Only seeds have slots of their own; nobody else can have these, as each person has one.
func (p plan) mayHave(i, slot int) bool {
	last, quarter := p.Size-1, p.Size/4
	switch {
	case i >= p.Seeds:
		return true
	case i == 0:
		return slot == 0
	case i == 1:
		return slot == last
	}
	return slot == quarter || slot == last-quarter
}

// mayFace reports whether two entrants may face each other. Of the seeds, the first ones must face byes, as many as there are; so the other seeds face none, nor does anybody else unless byes are left.
func (p plan) mayFace(a, b int) bool {
	first, second := min(a, b), max(a, b)
	free := first >= min(p.byes(), p.Seeds) || second == p.bye()
	return free && !p.clash(a, b)
}

// clash reports whether two entrants are byes, of the same nation, or qualifiers.
func (p plan) clash(a, b int) bool {
	x, y := p.entrants[a], p.entrants[b]
	byes := x.Player == api.Bye && y.Player == api.Bye
	nation := x.Nation != 0 && x.Nation == y.Nation
	return byes || nation || x.Qualified && y.Qualified
}

// breaks returns the numbers of all first matches whose entrants clash.
func (p plan) breaks(indexes []int) []int {
	var out []int
	for match := range p.Size / 2 {
		if p.clash(indexes[2*match], indexes[2*match+1]) {
			out = append(out, match)
		}
	}
	return out
}
