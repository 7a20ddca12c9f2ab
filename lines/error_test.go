package lines_test

import (
	"math"
	"slices"
	"testing"

	"deuce/api"
	"deuce/lines"
)

// checkAll checks that each function with a view and a box has an error, and nothing else with it.
func checkAll(t *testing.T, name string, v api.View, b api.Box, number int, want api.Errno) {
	t.Helper()
	if n, e := lines.Call(v, b); n != 0 || e != want {
		t.Errorf("%s: Call = %d, %d", name, n, e)
	}
	if m, e := lines.Show(v, b, number); m != (api.Mark{}) || e != want {
		t.Errorf("%s: Show = %v, %d", name, m, e)
	}
	if n, e := lines.Slack(v, b); n != 0 || e != want {
		t.Errorf("%s: Slack = %d, %d", name, n, e)
	}
	if n, kept, e := lines.Decide(number, v, b); want != api.ErrNone && (n != 0 || kept || e != want) {
		t.Errorf("%s: Decide = %d, %v, %d", name, n, kept, e)
	}
}

// P1, P2.1: TestViewFirst: the error of a view comes before any other one, and nothing else with it.
func TestViewFirst(t *testing.T) {
	bad := api.Box{Left: 9, Right: 41, Bottom: -1}
	for name, v := range invalidViews() {
		checkAll(t, name, v, bad, 9, api.ErrView)
		checkAll(t, name, v, box(3), api.In, api.ErrView)
		if l, e := lines.Wrong(v, api.Mark{X: -1}); len(l) != 0 || e != api.ErrView {
			t.Errorf("%s: Wrong = %v, %d", name, l, e)
		}
		if l, e := lines.Wrong(v, api.Mark{X: 4, Y: 6, HalfX: 2, HalfY: 2}); len(l) != 0 || e != api.ErrView {
			t.Errorf("%s: Wrong of a mark of V = %v, %d", name, l, e)
		}
		if n, x, y, e := lines.Centres(v); n != 0 || x != (api.Span{}) || y != (api.Span{}) || e != api.ErrView {
			t.Errorf("%s: Centres = %d, %v, %v, %d", name, n, x, y, e)
		}
		if n, e := lines.Fewest(v); n != 0 || e != api.ErrView {
			t.Errorf("%s: Fewest = %d, %d", name, n, e)
		}
		if l, e := lines.Blame(v); len(l) != 0 || e != api.ErrView {
			t.Errorf("%s: Blame = %v, %d", name, l, e)
		}
	}
}

// P1, P2.2, P2.7 to P2.10: TestBoxThen: the error of a box comes behind that of a view, and before the others.
func TestBoxThen(t *testing.T) {
	for name, b := range invalidBoxes() {
		checkAll(t, name, view(), b, 0, api.ErrBox)
		checkAll(t, name, view(), b, api.Out, api.ErrBox)
		checkAll(t, name, none(), b, api.Open, api.ErrBox)
		if is, e := lines.Touches(api.Mark{X: 41}, b); is || e != api.ErrBox {
			t.Errorf("%s: Touches = %v, %d", name, is, e)
		}
		if is, e := lines.Touches(api.Mark{X: 4, Y: 4, HalfX: 1, HalfY: 1}, b); is || e != api.ErrBox {
			t.Errorf("%s: Touches of a mark = %v, %d", name, is, e)
		}
	}
	for i, b := range []api.Box{{}, {Right: 40, Top: 40}, {Left: 40, Right: 40, Bottom: 40, Top: 40}, {Left: 11, Right: 12, Bottom: 13, Top: 13}} {
		if _, e := lines.Call(view(), b); e != api.OK {
			t.Errorf("%d: Call: %d", i, e)
		}
	}
}

// P1, P2.4 to P2.10: TestNoTruth: a view without a truth has no answers but those of Check, Wrong, Fewest and Decide.
func TestNoTruth(t *testing.T) {
	checkAll(t, "no truth", none(), box(3), api.In, api.ErrNone)
	checkAll(t, "no truth", none(), box(3), api.Out, api.ErrNone)
	if e := lines.Check(none()); e != api.OK {
		t.Errorf("Check = %d", e)
	}
	if l, e := lines.Wrong(none(), api.Mark{X: 5, Y: 6, HalfX: 2, HalfY: 1}); !slices.Equal(l, []int{2}) || e != api.OK {
		t.Errorf("Wrong = %v, %d", l, e)
	}
	if n, x, y, e := lines.Centres(none()); n != 0 || x != (api.Span{}) || y != (api.Span{}) || e != api.ErrNone {
		t.Errorf("Centres = %d, %v, %v, %d", n, x, y, e)
	}
	if n, e := lines.Fewest(none()); n != 1 || e != api.OK {
		t.Errorf("Fewest = %d, %d", n, e)
	}
	if l, e := lines.Blame(none()); len(l) != 0 || e != api.ErrNone {
		t.Errorf("Blame = %v, %d", l, e)
	}
	if n, kept, e := lines.Decide(api.In, none(), box(3)); n != api.In || !kept || e != api.OK {
		t.Errorf("Decide = %d, %v, %d", n, kept, e)
	}
}

// P1: TestExtremes: each number can be anything.
func TestExtremes(t *testing.T) {
	for _, n := range []int{math.MinInt, math.MinInt + 1, -1 << 32, -1, 41, 501, 1 << 32, 1<<32 + 1, 1<<62 + 1, math.MaxInt} {
		for i, change := range []func(v *api.View){
			func(v *api.View) { v.Size = n },
			func(v *api.View) { v.Wrong = n },
			func(v *api.View) { v.HalfX.Low = n },
			func(v *api.View) { v.HalfX.High = n },
			func(v *api.View) { v.HalfY.Low = n },
			func(v *api.View) { v.HalfY.High = n },
			func(v *api.View) { v.HalfX, v.HalfY = span(n, n), span(n, n) },
			func(v *api.View) { v.Strips[2].P = n },
			func(v *api.View) { v.Strips[2].Q = n },
			func(v *api.View) { v.Strips[2].Low, v.Strips[2].High = min(n, -501), 5 },
			func(v *api.View) { v.Strips[2].Low, v.Strips[2].High = 5, max(n, 501) },
		} {
			v := with(change)
			if n == -1 && (i == 7 || i == 8) {
				continue // a slope of -1 is one
			}
			if e := lines.Check(v); e != api.ErrView {
				t.Errorf("%d, %d: Check = %d", n, i, e)
			}
			checkAll(t, "view", v, api.Box{Left: n, Top: n}, n, api.ErrView)
		}
		for i, b := range []api.Box{{Left: n, Right: 40}, {Right: n}, {Right: 5, Bottom: n, Top: 40}, {Right: 5, Top: n}, {Left: n, Right: n, Bottom: n, Top: n}} {
			checkAll(t, "box", view(), b, n, api.ErrBox)
			if is, e := lines.Touches(api.Mark{X: n, Y: n, HalfX: n, HalfY: n}, b); is || e != api.ErrBox {
				t.Errorf("%d, %d: Touches = %v, %d", n, i, is, e)
			}
		}
		for i, m := range []api.Mark{{X: n, Y: 6, HalfX: 2, HalfY: 1}, {X: 5, Y: n, HalfX: 2, HalfY: 1}, {X: 5, Y: 6, HalfX: n, HalfY: 1}, {X: 5, Y: 6, HalfX: 2, HalfY: n}} {
			if is, e := lines.Touches(m, box(5)); is || e != api.ErrMark {
				t.Errorf("%d, %d: Touches = %v, %d", n, i, is, e)
			}
			if l, e := lines.Wrong(view(), m); len(l) != 0 || e != api.ErrMark {
				t.Errorf("%d, %d: Wrong = %v, %d", n, i, l, e)
			}
		}
		if m, e := lines.Show(view(), box(2), n); m != (api.Mark{}) || e != api.ErrMark {
			t.Errorf("%d: Show = %v, %d", n, m, e)
		}
		if d, kept, e := lines.Decide(n, view(), box(2)); d != 0 || kept || e != api.ErrMark {
			t.Errorf("%d: Decide = %d, %v, %d", n, d, kept, e)
		}
		if l, left, e := lines.Run(api.Rule{Each: 9}, []api.Appeal{set, {Kind: n}}); len(l) != 0 || left != [2]int{} || e != api.ErrAppeal {
			t.Errorf("%d: Run = %v, %v, %d", n, l, left, e)
		}
	}
}

// P1, R3: TestEmpty: an empty slice is the same as none.
func TestEmpty(t *testing.T) {
	a := api.View{Size: 3, HalfX: span(1, 1), HalfY: span(1, 1)}
	b := a
	b.Strips = []api.Strip{}
	for i, v := range []api.View{a, b} {
		if n, _, _, e := lines.Centres(v); n != 16 || e != api.OK {
			t.Errorf("%d: Centres = %d, %d", i, n, e)
		}
		if n, e := lines.Fewest(v); n != 0 || e != api.OK {
			t.Errorf("%d: Fewest = %d, %d", i, n, e)
		}
		if l, e := lines.Blame(v); len(l) != 0 || e != api.OK {
			t.Errorf("%d: Blame = %v, %d", i, l, e)
		}
		if n, e := lines.Call(v, box(3)); n != api.In || e != api.OK {
			t.Errorf("%d: Call = %d, %d", i, n, e)
		}
	}
}

// R4: TestMemory: no argument is changed, and no result shares memory with another one.
func TestMemory(t *testing.T) {
	v := api.View{Size: 10, Strips: append(make([]api.Strip, 0, 9), api.Strip{P: 1, Low: 30, High: 31}, api.Strip{Q: 1, Low: 30, High: 31}, api.Strip{P: 1, Q: 2, Low: 3, High: 4}), Wrong: 2, HalfX: span(1, 2), HalfY: span(1, 1)}
	l := append(make([]api.Appeal, 0, 9), set, api.Appeal{Kind: api.Ask, Said: api.In, View: v, Box: box(10)}, asks(1, api.In, 3))
	before, first := copied(v), slices.Clone(l)
	first[1].View = copied(v)
	m := api.Mark{X: 10, Y: 10, HalfX: 1, HalfY: 1}
	wrong, _ := lines.Wrong(v, m)
	blame, _ := lines.Blame(v)
	decisions, _, _ := lines.Run(api.Rule{Each: 1}, l)
	if len(wrong) != 3 || len(blame) != 2 || len(decisions) != 2 {
		t.Fatalf("%v, %v, %v", wrong, blame, decisions)
	}
	wrong[0], blame[0], decisions[0] = 99, 99, 99
	lines.Check(v)
	lines.Centres(v)
	lines.Fewest(v)
	lines.Call(v, box(3))
	lines.Show(v, box(3), api.In)
	lines.Slack(v, box(10))
	lines.Decide(api.In, v, box(3))
	if !sameView(v, before) || slices.ContainsFunc(v.Strips[:9][3:], func(s api.Strip) bool { return s != api.Strip{} }) {
		t.Errorf("the view is %v now", v)
	}
	for i, a := range l {
		if a.Kind != first[i].Kind || a.Side != first[i].Side || a.Said != first[i].Said || a.Box != first[i].Box || !sameView(a.View, first[i].View) {
			t.Errorf("the appeal %d is %v now", i, a)
		}
	}
	again, _ := lines.Wrong(v, m)
	other, _ := lines.Blame(v)
	more, _, _ := lines.Run(api.Rule{Each: 1}, l)
	if !slices.Equal(again, []int{0, 1, 2}) || !slices.Equal(other, []int{0, 1}) || !slices.Equal(more, []int{api.In, api.In}) {
		t.Errorf("%v, %v, %v behind changed results", again, other, more)
	}
}
