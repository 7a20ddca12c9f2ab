package lines

import (
	"iter"

	"deuce/api"
)

// noCall stands for the call of a view that has no truth.
const noCall = 0

// centres yields each centre that a mark can have.
func centres(size int) iter.Seq2[int, int] {
	return func(yield func(x, y int) bool) {
		for x := range size + 1 {
			for y := range size + 1 {
				if !yield(x, y) {
					return
				}
			}
		}
	}
}

// wrongOn returns a test of strips: whether a camera is wrong about a centre even if its strip is wider by slack at both ends.
func wrongOn(x, y, slack int) func(s api.Strip) bool {
	return func(s api.Strip) bool {
		return !within(s.P*x+s.Q*y, s.Low-slack, s.High+slack)
	}
}

// wrongAbout returns the cameras that are wrong about a centre.
func wrongAbout(v api.View, x, y int) []int {
	wrong := wrongOn(x, y, 0)
	var cameras []int
	for camera, s := range v.Strips {
		if wrong(s) {
			cameras = append(cameras, camera)
		}
	}
	return cameras
}

// trueCentres yields the centres of all truths, if each strip is wider by slack at both ends.
func trueCentres(v api.View, slack int) iter.Seq2[int, int] {
	allowed := func(x, y int) bool {
		wrong := wrongOn(x, y, slack)
		many := 0
		for _, s := range v.Strips {
			if wrong(s) {
				many++
			}
		}
		return many <= v.Wrong
	}
	return func(yield func(x, y int) bool) {
		for x, y := range centres(v.Size) {
			if allowed(x, y) && !yield(x, y) {
				return
			}
		}
	}
}

// touches reports whether a mark and a box have a point in common.
func touches(m api.Mark, b api.Box) bool {
	dx := max(b.Left-m.X, 0, m.X-b.Right)
	dy := max(b.Bottom-m.Y, 0, m.Y-b.Top)
	square := func(n int) int { return n * n }
	return square(dx*m.HalfY)+square(dy*m.HalfX) <= square(m.HalfX*m.HalfY)
}

// find returns a truth that touches a box (api.In), or one that does not (api.Out), if each strip is wider by slack at both ends.
func find(v api.View, b api.Box, slack, call int) (m api.Mark, found bool) {
	// A mark lies within each larger one around its centre: if any of them touches the box, the largest one does, and if any does not, the smallest one does not.
	halfX, halfY := v.HalfX.High, v.HalfY.High
	if call == api.Out {
		halfX, halfY = v.HalfX.Low, v.HalfY.Low
	}
	for x, y := range trueCentres(v, slack) {
		m := api.Mark{X: x, Y: y, HalfX: halfX, HalfY: halfY}
		if touches(m, b) == (call == api.In) {
			return m, true
		}
	}
	return api.Mark{}, false
}

// callOf returns the call of a view for a box, if each strip is wider by slack at both ends; noCall if there is no truth.
func callOf(v api.View, b api.Box, slack int) int {
	_, in := find(v, b, slack, api.In)
	_, out := find(v, b, slack, api.Out)
	switch {
	case in && out:
		return api.Open
	case in:
		return api.In
	case out:
		return api.Out
	}
	return noCall
}
