package lines_test

import (
	"slices"
	"testing"

	"deuce/api"
	"deuce/lines"
)

// P2.1: TestCheck looks at the limits of each field of a view.
func TestCheck(t *testing.T) {
	steep := []api.Strip{{P: -3, Q: -3, Low: -500, High: 500}, {P: 3, Q: 3, Low: -500, High: -500}, {P: 3, Low: 500, High: 500}, {Q: -3, Low: 7, High: 7}}
	for i, v := range []api.View{
		view(),
		none(),
		{HalfX: span(1, 1), HalfY: span(1, 1)},
		{Size: 40, Wrong: 3, HalfX: span(1, 9), HalfY: span(9, 9)},
		{Size: 40, Wrong: 3, HalfX: span(9, 9), HalfY: span(1, 9), Strips: []api.Strip{}},
		{Size: 1, HalfX: span(1, 1), HalfY: span(1, 1), Strips: steep},
		{Size: 1, HalfX: span(1, 1), HalfY: span(1, 1), Strips: slices.Repeat(steep, 2)},
		with(func(v *api.View) { v.Strips[0] = v.Strips[1] }),
	} {
		if e := lines.Check(v); e != api.OK {
			t.Errorf("%d: %d", i, e)
		}
	}
	for name, v := range invalidViews() {
		if e := lines.Check(v); e != api.ErrView {
			t.Errorf("%s: %d", name, e)
		}
	}
}

// P2.2: TestTouches: marks on all sides of a box, with a point in common, with its border, and with none.
func TestTouches(t *testing.T) {
	b := api.Box{Left: 10, Right: 12, Bottom: 20, Top: 23}
	mark := func(x, y, halfX, halfY int) api.Mark { return api.Mark{X: x, Y: y, HalfX: halfX, HalfY: halfY} }
	for i, x := range []struct {
		m    api.Mark
		b    api.Box
		want bool
	}{
		{mark(5, 6, 2, 1), box(3), true},
		{mark(5, 6, 2, 1), box(2), false},
		{mark(11, 21, 1, 1), b, true},
		{mark(10, 20, 9, 9), b, true},
		{mark(8, 21, 2, 1), b, true},
		{mark(7, 21, 2, 9), b, false},
		{mark(14, 23, 2, 1), b, true},
		{mark(15, 23, 2, 9), b, false},
		{mark(12, 17, 1, 3), b, true},
		{mark(12, 16, 9, 3), b, false},
		{mark(10, 26, 1, 3), b, true},
		{mark(10, 27, 9, 3), b, false},
		{mark(7, 16, 5, 5), b, true},
		{mark(6, 17, 5, 5), b, true},
		{mark(6, 16, 5, 5), b, false},
		{mark(15, 27, 5, 5), b, true},
		{mark(16, 27, 5, 5), b, false},
		{mark(7, 27, 5, 5), b, true},
		{mark(15, 16, 5, 5), b, true},
		{mark(9, 13, 2, 9), b, true},
		{mark(9, 12, 2, 9), b, false},
		{mark(13, 30, 2, 9), b, true},
		{mark(14, 30, 2, 9), b, false},
		{mark(3, 19, 9, 2), b, true},
		{mark(2, 19, 9, 2), b, false},
		{mark(0, 0, 1, 1), api.Box{}, true},
		{mark(0, 1, 1, 1), api.Box{}, true},
		{mark(1, 1, 1, 1), api.Box{}, false},
		{mark(1, 1, 2, 2), api.Box{}, true},
		{mark(40, 40, 9, 9), api.Box{Left: 40, Right: 40, Bottom: 31, Top: 31}, true},
		{mark(40, 40, 9, 9), api.Box{Left: 40, Right: 40, Bottom: 30, Top: 30}, false},
		{mark(0, 40, 9, 1), api.Box{Right: 40, Top: 40}, true},
	} {
		if is, e := lines.Touches(x.m, x.b); is != x.want || e != api.OK {
			t.Errorf("%d: Touches = %v, %d", i, is, e)
		}
	}
	for i, m := range []api.Mark{
		{}, mark(-1, 5, 1, 1), mark(41, 5, 1, 1), mark(5, -1, 1, 1), mark(5, 41, 1, 1),
		mark(5, 5, 0, 1), mark(5, 5, 10, 1), mark(5, 5, 1, 0), mark(5, 5, 1, 10), mark(5, 5, -1, 1), mark(5, 5, 1, -1),
	} {
		if is, e := lines.Touches(m, box(10)); is || e != api.ErrMark {
			t.Errorf("%d: Touches = %v, %d", i, is, e)
		}
	}
}

// P2.2: TestTouchesAll compares marks with all points of boxes.
func TestTouchesAll(t *testing.T) {
	r := random(1)
	seen := map[bool]int{}
	for range 20000 {
		b := randomBox(r, 40)
		m := api.Mark{X: r.IntN(41), Y: r.IntN(41), HalfX: 1 + r.IntN(9), HalfY: 1 + r.IntN(9)}
		if r.IntN(2) == 0 {
			// Near a corner, where the ellipse and the rectangle around it differ.
			m.X, m.Y = max(b.Left-r.IntN(10), 0), min(b.Top+r.IntN(10), 40)
		}
		want := hits(m, b)
		seen[want]++
		if is, e := lines.Touches(m, b); is != want || e != api.OK {
			t.Fatalf("Touches of %v and %v = %v, %d", m, b, is, e)
		}
	}
	if min(seen[true], seen[false]) < 1000 {
		t.Errorf("touching or not: %v", seen)
	}
}

// P2.3: TestWrong: the cameras that are wrong, also where their number does not matter.
func TestWrong(t *testing.T) {
	six := api.View{Size: 6, HalfX: span(2, 4), HalfY: span(3, 3), Wrong: 3, Strips: []api.Strip{
		{P: 2, Q: -3, Low: -2, High: 1}, {P: -1, Low: -3, High: -2}, {P: 2, Q: -3, Low: -2, High: 1}, {Q: 3, Low: 6, High: 6},
	}}
	mark := func(x, y int) api.Mark { return api.Mark{X: x, Y: y, HalfX: 2, HalfY: 1} }
	three := func(x, y, halfX int) api.Mark { return api.Mark{X: x, Y: y, HalfX: halfX, HalfY: 3} }
	for i, x := range []struct {
		v    api.View
		m    api.Mark
		want []int
		e    api.Errno
	}{
		{view(), mark(3, 6), []int{0}, api.OK},
		{view(), mark(4, 6), nil, api.OK},
		{view(), mark(5, 6), nil, api.OK},
		{view(), mark(6, 6), []int{0}, api.OK},
		{view(), mark(6, 7), []int{0, 1, 2}, api.OK},
		{view(), mark(4, 5), []int{1}, api.OK},
		{view(), mark(4, 4), []int{1, 2}, api.OK},
		{view(), mark(10, 10), []int{0, 1, 2}, api.OK},
		{view(), api.Mark{X: 4, Y: 6, HalfX: 2, HalfY: 2}, nil, api.OK},
		{none(), mark(4, 6), []int{2}, api.OK},
		{six, three(2, 2, 2), nil, api.OK},
		{six, three(2, 2, 4), nil, api.OK},
		{six, three(4, 2, 3), []int{0, 1, 2}, api.OK},
		{six, three(0, 1, 3), []int{0, 1, 2, 3}, api.OK},
		{six, three(6, 6, 3), []int{0, 1, 2, 3}, api.OK},
		{six, three(3, 2, 3), nil, api.OK},
		{six, three(1, 2, 3), []int{0, 1, 2}, api.OK},
		{six, three(2, 1, 3), []int{3}, api.OK},
		{upTo(0, 3), api.Mark{X: 40, Y: 40, HalfX: 1, HalfY: 1}, []int{0}, api.OK},
		{view(), mark(11, 6), nil, api.ErrMark},
		{view(), mark(6, 11), nil, api.ErrMark},
		{view(), mark(-1, 6), nil, api.ErrMark},
		{view(), mark(6, -1), nil, api.ErrMark},
		{view(), api.Mark{X: 4, Y: 6, HalfX: 1, HalfY: 1}, nil, api.ErrMark},
		{view(), api.Mark{X: 4, Y: 6, HalfX: 3, HalfY: 1}, nil, api.ErrMark},
		{view(), api.Mark{X: 4, Y: 6, HalfX: 2, HalfY: 3}, nil, api.ErrMark},
		{six, api.Mark{X: 4, Y: 6, HalfX: 2, HalfY: 2}, nil, api.ErrMark},
		{six, three(4, 2, 1), nil, api.ErrMark},
		{six, three(4, 2, 5), nil, api.ErrMark},
	} {
		if l, e := lines.Wrong(x.v, x.m); e != x.e || !slices.Equal(l, x.want) {
			t.Errorf("%d: Wrong = %v, %d", i, l, e)
		}
	}
}

// P2.4 to P2.6: TestCentres: views with one truth, some, all, and none.
func TestCentres(t *testing.T) {
	split := []api.Strip{{P: 1, Low: 0, High: 0}, {P: 1, Low: 4, High: 4}, {Q: 1, Low: 2, High: 2}}
	off := []api.Strip{{P: 1, Low: 9, High: 9}, {Q: 1, Low: 2, High: 2}, {P: 3, Q: 3, Low: -9, High: -1}}
	twice := []api.Strip{{P: 1, Low: 1, High: 1}, {Q: 1, Low: 3, High: 4}, {P: 1, Low: 2, High: 2}, {P: 1, Low: 2, High: 2}}
	one := func(size, wrong int, l []api.Strip) api.View {
		return api.View{Size: size, Strips: l, Wrong: wrong, HalfX: span(1, 9), HalfY: span(2, 3)}
	}
	for name, x := range map[string]struct {
		v      api.View
		many   int
		x, y   api.Span
		fewest int
		blame  []int
		e      api.Errno
	}{
		"the example":          {view(), 2, span(4, 5), span(6, 6), 0, nil, api.OK},
		"one wrong":            {with(func(v *api.View) { v.Wrong = 1 }), 10, span(3, 6), span(4, 8), 0, nil, api.OK},
		"all wrong":            {with(func(v *api.View) { v.Wrong = 3 }), 121, span(0, 10), span(0, 10), 0, nil, api.OK},
		"no truth":             {none(), 0, span(0, 0), span(0, 0), 1, nil, api.ErrNone},
		"no truth, far off":    {one(4, 1, off), 0, span(0, 0), span(0, 0), 2, nil, api.ErrNone},
		"no cameras":           {one(2, 0, nil), 9, span(0, 2), span(0, 2), 0, nil, api.OK},
		"no cameras, one spot": {one(0, 3, nil), 1, span(0, 0), span(0, 0), 0, nil, api.OK},
		"as large as can be":   {one(40, 0, nil), 1681, span(0, 40), span(0, 40), 0, nil, api.OK},
		"two that differ":      {one(4, 1, split), 2, span(0, 4), span(2, 2), 1, nil, api.OK},
		"two that differ, 0":   {one(4, 0, split), 0, span(0, 0), span(0, 0), 1, nil, api.ErrNone},
		"two are always wrong": {one(4, 2, off), 5, span(0, 4), span(2, 2), 2, []int{0, 2}, api.OK},
		"but not always":       {one(4, 3, off), 25, span(0, 4), span(0, 4), 2, []int{0, 2}, api.OK},
		"equal cameras":        {one(9, 1, twice), 2, span(2, 2), span(3, 4), 1, []int{0}, api.OK},
		"equal cameras, two":   {one(9, 2, twice), 12, span(1, 2), span(0, 9), 1, nil, api.OK},
	} {
		if n, a, b, e := lines.Centres(x.v); n != x.many || a != x.x || b != x.y || e != x.e {
			t.Errorf("%s: Centres = %d, %v, %v, %d", name, n, a, b, e)
		}
		if n, e := lines.Fewest(x.v); n != x.fewest || e != api.OK {
			t.Errorf("%s: Fewest = %d, %d", name, n, e)
		}
		if l, e := lines.Blame(x.v); !slices.Equal(l, x.blame) || e != x.e {
			t.Errorf("%s: Blame = %v, %d", name, l, e)
		}
	}
}

// P2.3 to P2.6: TestCentresAll compares views with all of their marks.
func TestCentresAll(t *testing.T) {
	seen := map[string]int{}
	for seed := range uint64(3000) {
		v := randomView(random(seed))
		many, x, y, fewest := 0, span(99, -1), span(99, -1), 99
		blame := []int{0, 1, 2, 3, 4, 5, 6, 7}
		for atX := range v.Size + 1 {
			for atY := range v.Size + 1 {
				wrong := wrongAt(v, atX, atY)
				fewest = min(fewest, len(wrong))
				if l, e := lines.Wrong(v, api.Mark{X: atX, Y: atY, HalfX: v.HalfX.Low, HalfY: v.HalfY.High}); e != api.OK || !slices.Equal(l, wrong) {
					t.Fatalf("seed %d: Wrong of %d %d = %v, %d", seed, atX, atY, l, e)
				}
				if len(wrong) > v.Wrong {
					continue
				}
				many++
				x, y = span(min(x.Low, atX), max(x.High, atX)), span(min(y.Low, atY), max(y.High, atY))
				blame = slices.DeleteFunc(blame, func(n int) bool { return !slices.Contains(wrong, n) })
			}
		}
		want := api.OK
		if many == 0 {
			x, y, blame, want = span(0, 0), span(0, 0), nil, api.ErrNone
			seen["no truth"]++
		}
		if n, a, b, e := lines.Centres(v); n != many || a != x || b != y || e != want {
			t.Fatalf("seed %d: Centres = %d, %v, %v, %d instead of %d, %v, %v", seed, n, a, b, e, many, x, y)
		}
		if n, e := lines.Fewest(v); n != fewest || e != api.OK {
			t.Fatalf("seed %d: Fewest = %d, %d instead of %d", seed, n, e, fewest)
		}
		if l, e := lines.Blame(v); !slices.Equal(l, blame) || e != want {
			t.Fatalf("seed %d: Blame = %v, %d instead of %v", seed, l, e, blame)
		}
		if len(blame) > 0 {
			seen["blame"]++
		}
	}
	if seen["no truth"] < 100 || seen["blame"] < 100 {
		t.Errorf("too few: %v", seen)
	}
}
