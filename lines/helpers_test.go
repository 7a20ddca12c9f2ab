package lines_test

import (
	"math/rand/v2"
	"slices"

	"deuce/api"
)

func span(low, high int) api.Span { return api.Span{Low: low, High: high} }

// view is the view V of the chapter's examples.
func view() api.View {
	return api.View{
		Size:   10,
		Strips: []api.Strip{{P: 1, Low: 4, High: 5}, {Q: 1, Low: 6, High: 6}, {P: 1, Q: 1, Low: 9, High: 12}},
		HalfX:  span(2, 2),
		HalfY:  span(1, 2),
	}
}

// with returns the view V with something changed.
func with(change func(v *api.View)) api.View {
	v := view()
	change(&v)
	return v
}

// none is a view that has no truth.
func none() api.View {
	return with(func(v *api.View) { v.Strips[2].Low = 12 })
}

// box is the boxes B to E of the examples, by their right sides.
func box(right int) api.Box { return api.Box{Right: right, Top: 10} }

// upTo is a view of marks of the half axes 1 that has one camera, which says that X is from low to high.
func upTo(low, high int) api.View {
	return api.View{Size: 40, Strips: []api.Strip{{P: 1, Low: low, High: high}}, HalfX: span(1, 1), HalfY: span(1, 1)}
}

// invalidViews is views of which just one thing is not valid.
func invalidViews() map[string]api.View {
	strip := func(s api.Strip) api.View {
		return with(func(v *api.View) { v.Strips = append(v.Strips, s) })
	}
	return map[string]api.View{
		"size below":         with(func(v *api.View) { v.Size = -1 }),
		"size above":         with(func(v *api.View) { v.Size = 41 }),
		"nine strips":        with(func(v *api.View) { v.Strips = slices.Repeat(v.Strips, 3) }),
		"wrong below":        with(func(v *api.View) { v.Wrong = -1 }),
		"wrong above":        with(func(v *api.View) { v.Wrong = 4 }),
		"half X below":       with(func(v *api.View) { v.HalfX = span(0, 2) }),
		"half X above":       with(func(v *api.View) { v.HalfX = span(2, 10) }),
		"half X crossed":     with(func(v *api.View) { v.HalfX = span(3, 2) }),
		"half Y below":       with(func(v *api.View) { v.HalfY = span(0, 2) }),
		"half Y above":       with(func(v *api.View) { v.HalfY = span(2, 10) }),
		"half Y crossed":     with(func(v *api.View) { v.HalfY = span(3, 2) }),
		"P below":            strip(api.Strip{P: -4, Q: 1}),
		"P above":            strip(api.Strip{P: 4, Q: 1}),
		"Q below":            strip(api.Strip{P: 1, Q: -4}),
		"Q above":            strip(api.Strip{P: 1, Q: 4}),
		"neither P nor Q":    strip(api.Strip{Low: 1, High: 2}),
		"strip crossed":      strip(api.Strip{P: 1, Low: 3, High: 2}),
		"low below":          strip(api.Strip{P: 1, Low: -501, High: 5}),
		"low above":          strip(api.Strip{P: 1, Low: 501, High: 501}),
		"high below":         strip(api.Strip{P: 1, Low: -501, High: -501}),
		"high above":         strip(api.Strip{P: 1, Low: 5, High: 501}),
		"the first strip":    with(func(v *api.View) { v.Strips[0].P = 0 }),
		"the strip between":  with(func(v *api.View) { v.Strips[1].High = 5 }),
		"nothing of a view":  {},
		"no half axes":       with(func(v *api.View) { v.HalfX, v.HalfY = span(0, 0), span(0, 0) }),
		"no strips, size":    {Size: 41, HalfX: span(1, 1), HalfY: span(1, 1)},
		"no strips, axes":    {Size: 40, HalfX: span(1, 1), HalfY: span(9, 10)},
		"a no-truth view":    with(func(v *api.View) { v.Strips[2].Low, v.Wrong = 12, -1 }),
		"size, and no truth": with(func(v *api.View) { v.Strips[2].Low, v.Size = 12, 50 }),
	}
}

// invalidBoxes is boxes of which just one thing is not valid.
func invalidBoxes() map[string]api.Box {
	return map[string]api.Box{
		"left below":     {Left: -1, Right: 5, Top: 5},
		"right below":    {Left: -1, Right: -1, Top: 5},
		"left above":     {Left: 41, Right: 41, Top: 5},
		"right above":    {Left: 5, Right: 41, Top: 5},
		"X crossed":      {Left: 5, Right: 4, Top: 5},
		"bottom below":   {Right: 5, Bottom: -1, Top: 5},
		"top below":      {Right: 5, Bottom: -1, Top: -1},
		"bottom above":   {Right: 5, Bottom: 41, Top: 41},
		"top above":      {Right: 5, Bottom: 5, Top: 41},
		"Y crossed":      {Right: 5, Bottom: 5, Top: 4},
		"crossed at all": {Left: 1, Bottom: 1},
	}
}

// copied returns a view that shares no memory with another one.
func copied(v api.View) api.View {
	v.Strips = slices.Clone(v.Strips)
	return v
}

// sameView reports whether two views are equal.
func sameView(a, b api.View) bool {
	return a.Size == b.Size && slices.Equal(a.Strips, b.Strips) && a.Wrong == b.Wrong && a.HalfX == b.HalfX && a.HalfY == b.HalfY
}

// wrongAt returns the cameras that are wrong about a centre.
func wrongAt(v api.View, x, y int) []int {
	var out []int
	for i, s := range v.Strips {
		if sum := s.P*x + s.Q*y; sum < s.Low || sum > s.High {
			out = append(out, i)
		}
	}
	return out
}

// truths returns all truths of a view: each mark of it is looked at.
func truths(v api.View) []api.Mark {
	var out []api.Mark
	for x := range v.Size + 1 {
		for y := range v.Size + 1 {
			if len(wrongAt(v, x, y)) > v.Wrong {
				continue
			}
			for a := v.HalfX.Low; a <= v.HalfX.High; a++ {
				for b := v.HalfY.Low; b <= v.HalfY.High; b++ {
					out = append(out, api.Mark{X: x, Y: y, HalfX: a, HalfY: b})
				}
			}
		}
	}
	return out
}

// hits reports whether some point of a box lies in a mark. As centres and boxes are of whole numbers, the nearest point is of whole numbers, too.
func hits(m api.Mark, b api.Box) bool {
	for x := b.Left; x <= b.Right; x++ {
		for y := b.Bottom; y <= b.Top; y++ {
			dx, dy := x-m.X, y-m.Y
			if dx*dx*m.HalfY*m.HalfY+dy*dy*m.HalfX*m.HalfX <= m.HalfX*m.HalfX*m.HalfY*m.HalfY {
				return true
			}
		}
	}
	return false
}

// callBy returns the call by all truths, 0 if there is none.
func callBy(l []api.Mark, b api.Box) int {
	in := 0
	for _, m := range l {
		if hits(m, b) {
			in++
		}
	}
	switch {
	case len(l) == 0:
		return 0
	case in == len(l):
		return api.In
	case in == 0:
		return api.Out
	}
	return api.Open
}

// wider returns a view with strips that are wider at both ends.
func wider(v api.View, by int) api.View {
	v = copied(v)
	for i := range v.Strips {
		v.Strips[i].Low -= by
		v.Strips[i].High += by
	}
	return v
}

// random returns a source of the same numbers for the same seed.
func random(seed uint64) *rand.Rand { return rand.New(rand.NewPCG(seed, 2)) }

// within returns a random span in bounds.
func within(r *rand.Rand, low, high int) api.Span {
	a, b := low+r.IntN(high-low+1), low+r.IntN(high-low+1)
	return span(min(a, b), max(a, b))
}

// randomView returns a small view: most of its cameras saw one centre, some of them another one.
func randomView(r *rand.Rand) api.View {
	v := api.View{Size: r.IntN(10), Wrong: r.IntN(4) * r.IntN(2), HalfX: within(r, 1, 4), HalfY: within(r, 1, 4)}
	x, y := r.IntN(v.Size+1), r.IntN(v.Size+1)
	for range r.IntN(9) {
		s := api.Strip{P: r.IntN(7) - 3, Q: r.IntN(7) - 3}
		if s.P == 0 && s.Q == 0 {
			s.P = 1
		}
		sum := s.P*x + s.Q*y
		if r.IntN(6) == 0 {
			sum += r.IntN(21) - 10
		}
		s.Low, s.High = sum-r.IntN(4), sum+r.IntN(4)
		v.Strips = append(v.Strips, s)
	}
	return v
}

// randomBox returns a box within a size.
func randomBox(r *rand.Rand, size int) api.Box {
	x, y := within(r, 0, size), within(r, 0, size)
	return api.Box{Left: x.Low, Right: x.High, Bottom: y.Low, Top: y.High}
}
