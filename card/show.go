package card

import "slices"

// wayTo returns a match of the card that ends at a node, when search has come to it and remembers how.
func (r *reader) wayTo(end *node) (first int, points []int) {
	n, spot := end, r.last()
	for spot > 0 {
		if spot == r.begin[r.mark[spot]] {
			spot = r.before(n, r.mark[spot]-1)
			continue
		}
		spot--
		for _, s := range n.from {
			if r.wins[s.side][spot] && s.reached.has(spot) {
				points = append(points, s.side)
				n = s.node
				break
			}
		}
	}
	slices.Reverse(points)
	return n.opens, points
}

// before returns a spot of a mark from which matches went on to the next one at a node.
func (r *reader) before(n *node, mark int) int {
	least, most := pointsOf(r.Marks[mark])
	spot := r.begin[mark] + least
	for spot < r.begin[mark]+most && !n.reached.has(spot) {
		spot++
	}
	return spot
}
