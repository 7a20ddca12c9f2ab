package draws

import (
	"iter"
	"slices"
)

// all yields all draws that obey, in their order, as the indexes of those in the slots. They come in the same memory, one after the other.
func (p plan) all() iter.Seq[[]int] {
	return func(yield func(indexes []int) bool) {
		left := p.left()
		var indexes []int
		var rest func() bool // it reports whether more draws are asked for
		rest = func() bool {
			if len(indexes) == p.Size {
				return yield(indexes)
			}
			for _, i := range p.order {
				if left[i] == 0 || !p.fits(indexes, i) {
					continue
				}
				left[i]--
				indexes = append(indexes, i)
				more := rest()
				indexes = indexes[:len(indexes)-1]
				left[i]++
				if !more {
					return false
				}
			}
			return true
		}
		rest()
	}
}

// left returns how often each entrant has a slot in a draw: each person once, Bye in all other slots.
func (p plan) left() []int {
	out := slices.Repeat([]int{1}, len(p.entrants))
	out[p.bye()] = p.byes()
	return out
}

// count returns the number of all draws that obey.
func (p plan) count() int {
	n := 0
	for range p.all() {
		n++
	}
	return n
}

// pick returns the draw with a number, and whether there is one.
func (p plan) pick(n int) (sheet []int, found bool) {
	at := 0
	for indexes := range p.all() {
		if at == n {
			return p.sheet(indexes), true
		}
		at++
	}
	return nil, false
}

// number returns the number of a draw, and whether it has one.
func (p plan) number(wanted []int) (n int, found bool) {
	for indexes := range p.all() {
		if slices.Equal(indexes, wanted) {
			return n, true
		}
		n++
	}
	return 0, false
}

// facing returns in how many of all draws that obey a person faces each entrant.
func (p plan) facing(i int) []int {
	out := make([]int, len(p.entrants))
	for indexes := range p.all() {
		slot := slices.Index(indexes, i)
		// The slots 2 n and 2 n + 1 face each other.
		out[indexes[slot^1]]++
	}
	return out
}
