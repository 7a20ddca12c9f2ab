package card

import "deuce/api"

// The worth of a match that has come somewhere: it begins with begun, and never comes down to none, as there are not so many points or marks.
const (
	none  = 0
	begun = 1000
)

// reader reads the marks of a card one after the other. It counts spots: each mark has one for each number of points that can have been played with it, and the last spot is behind all marks.
type reader struct {
	api.Card
	gain      int16 // what a point is worth
	drops     bool  // whether marks can be left out, for a worth of 1 each
	exact     bool  // whether sets with other games are other sets
	remembers bool  // whether nodes keep how matches came to them

	begin []int     // the first spot of each mark, and the last spot
	mark  []int     // the mark of each spot
	wins  [2][]bool // for each spot, whether a side can win a point there
	holds []func(p place) bool
	nodes map[place]*node
	spare [][]int16 // that can be the worth of other nodes
}

// node is a place to which matches come.
type node struct {
	place
	low     int     // there are no lower spots to which a match has come
	worth   []int16 // the greatest one of the matches that have come, by spots, until the node was visited
	reached spots
	from    []step
}

// step is a point that a side has won at a node.
type step struct {
	*node
	side int
}

// newReader returns a reader of a card that is valid.
func newReader(c api.Card) *reader {
	r := &reader{Card: c, nodes: map[place]*node{}}
	for i, x := range c.Marks {
		r.begin = append(r.begin, len(r.mark))
		r.holds = append(r.holds, truth(c.Format, x))
		_, most := pointsOf(x)
		for played := range most + 1 {
			r.mark = append(r.mark, i)
			for side := range r.wins {
				r.wins[side] = append(r.wins[side], played < most && canWin(x, side))
			}
		}
	}
	r.begin = append(r.begin, len(r.mark))
	r.mark = append(r.mark, len(c.Marks))
	return r
}

// last returns the spot behind all marks.
func (r *reader) last() int { return len(r.mark) - 1 }

// best returns the greatest worth of a match of the card.
func (r *reader) best() int {
	best := none
	r.search(func(n *node) { best = max(best, int(n.worth[r.last()])) })
	return best
}

// search visits all places to which matches come by the marks, each one when all matches have come to it.
func (r *reader) search(visit func(n *node)) {
	var l []*node
	for side := range 2 {
		if r.First != 1-side {
			n, _ := r.node(place{opens: side, winner: nobody})
			n.come(0, begun)
			l = append(l, n)
		}
	}
	for len(l) > 0 {
		l = r.playSet(l, visit)
	}
}

// playSet visits all places of sets from their beginnings on, and returns those behind them.
func (r *reader) playSet(l []*node, visit func(n *node)) (behind []*node) {
	for len(l) > 0 {
		var more []*node
		l, more = r.playGame(l, visit)
		behind = append(behind, more...)
	}
	return behind
}

// playGame visits all places of games from their beginnings on, and returns those behind them: in the same set, and behind it. Each of the games has as many others before it in its set.
func (r *reader) playGame(l []*node, visit func(n *node)) (games, sets []*node) {
	for len(l) > 0 {
		var points []*node
		for _, n := range l {
			r.read(n)
			visit(n)
			for _, to := range r.play(n) {
				switch {
				case to.over() > n.over():
					sets = append(sets, to)
				case to.points == api.Pair{}:
					games = append(games, to)
				default:
					points = append(points, to)
				}
			}
			r.leave(n)
		}
		l = points
	}
	return games, sets
}

// read goes on, at a node, from marks that are true there, or are left out, to the next ones.
func (r *reader) read(n *node) {
	for i := r.mark[n.low]; i < len(r.Marks); i++ {
		begin, next := r.begin[i], r.begin[i+1]
		if r.holds[i](n.place) {
			least, most := pointsOf(r.Marks[i])
			for _, worth := range n.worth[begin+least : begin+most+1] {
				n.worth[next] = max(n.worth[next], worth)
			}
		}
		if r.drops {
			n.worth[next] = max(n.worth[next], n.worth[begin]-1)
		}
	}
}

// play goes on from a node by a point, and returns the nodes to which no match has come before.
func (r *reader) play(n *node) []*node {
	var fresh []*node
	if n.winner != nobody {
		return nil
	}
	for side, wins := range r.wins {
		var to *node
		for spot := n.low; spot < r.last(); spot++ {
			if !wins[spot] || n.worth[spot] == none {
				continue
			}
			if to == nil {
				known := false
				to, known = r.node(n.after(r.Format, side))
				if !known {
					fresh = append(fresh, to)
				}
				if r.remembers {
					to.from = append(to.from, step{n, side})
				}
			}
			to.come(spot+1, n.worth[spot]+r.gain)
		}
	}
	return fresh
}

// come takes a match that comes to a spot of a node.
func (n *node) come(spot int, worth int16) {
	n.low = min(n.low, spot)
	n.worth[spot] = max(n.worth[spot], worth)
}

// leave gives up the worth of a node that was visited.
func (r *reader) leave(n *node) {
	if r.remembers {
		n.reached = n.spots()
	}
	r.spare = append(r.spare, n.worth)
	n.worth = nil
}

// spots returns the spots to which matches have come.
func (n *node) spots() spots {
	var s spots
	for spot, worth := range n.worth {
		if worth != none {
			s.add(spot)
		}
	}
	return s
}

// node returns the node of a place, and whether it was known before.
func (r *reader) node(p place) (n *node, known bool) {
	if !r.exact {
		p.sets = p.winners()
	}
	n, known = r.nodes[p]
	if !known {
		n = &node{place: p, low: r.last(), worth: r.noWorth()}
		r.nodes[p] = n
	}
	return n, known
}

// noWorth returns the worth of a node to which no match has come.
func (r *reader) noWorth() []int16 {
	if len(r.spare) == 0 {
		return make([]int16, len(r.mark))
	}
	worth := r.spare[len(r.spare)-1]
	r.spare = r.spare[:len(r.spare)-1]
	clear(worth)
	return worth
}
