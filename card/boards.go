package card

import (
	"cmp"
	"slices"

	"deuce/api"
)

// opening is how a set can begin: where, and at which spots, by the side that opens it (by 0 for a match that is over).
type opening struct {
	place
	at [2]spots
}

// course is how a set can go on from an opening: where in it matches of the card can end, and how the next one can begin, by the games of this one.
type course struct {
	ends   map[stand]bool
	behind map[api.Pair]opening
}

// boards returns the boards of all matches of the card, in no order.
func (r *reader) boards() []api.Board {
	var l []api.Board
	r.exact = true
	start := opening{place: place{winner: nobody}}
	for side := range 2 {
		if r.First != 1-side {
			start.at[side].add(0)
		}
	}
	level := map[opening][]sets{start: {{}}}
	for len(level) > 0 {
		next := map[opening][]sets{}
		for o, before := range level {
			c := r.course(o)
			over := o.over()
			for _, played := range before {
				for s := range c.ends {
					l = append(l, api.Board{Sets: slices.Clone(played[:over]), Games: s.games, Points: s.points})
				}
				for games, behind := range c.behind {
					played[over] = games
					next[behind] = append(next[behind], played)
				}
			}
		}
		level = next
	}
	return l
}

// course returns how a set can go on from an opening.
func (r *reader) course(o opening) course {
	c := course{ends: map[stand]bool{}, behind: map[api.Pair]opening{}}
	visit := func(n *node) {
		if n.worth[r.last()] != none {
			c.ends[n.stand] = true
		}
	}
	for _, n := range r.playSet(r.openings(o), visit) {
		games := n.sets[o.over()]
		behind := c.behind[games]
		behind.place = n.place
		behind.place.sets = n.winners()
		behind.opens = min(n.opens, 0)
		behind.at[max(n.opens, 0)] = n.spots()
		c.behind[games] = behind
	}
	return c
}

// openings returns the nodes of an opening, and forgets all others.
func (r *reader) openings(o opening) []*node {
	var l []*node
	clear(r.nodes)
	for side, at := range o.at {
		if at == (spots{}) {
			continue
		}
		p := o.place
		if side == 1 {
			p.opens = 1
		}
		n, _ := r.node(p)
		for spot := range n.worth {
			if at.has(spot) {
				n.come(spot, begun)
			}
		}
		l = append(l, n)
	}
	return l
}

func comparePairs(a, b api.Pair) int {
	return cmp.Or(cmp.Compare(a.A, b.A), cmp.Compare(a.B, b.B))
}

func compareBoards(a, b api.Board) int {
	return cmp.Or(
		slices.CompareFunc(a.Sets, b.Sets, comparePairs),
		comparePairs(a.Games, b.Games),
		comparePairs(a.Points, b.Points),
	)
}
