package lines_test

import (
	"testing"

	"deuce/api"
	"deuce/lines"
)

// P2.7, P2.9: TestCall: calls, and how much wider the strips of sure ones can be.
func TestCall(t *testing.T) {
	wall := func(left, right int) api.Box { return api.Box{Left: left, Right: right, Top: 40} }
	floor := func(bottom, top int) api.Box { return api.Box{Right: 40, Bottom: bottom, Top: top} }
	blind := api.View{Size: 10, HalfX: span(2, 4), HalfY: span(1, 3)}
	flat := func(low, high int) api.View {
		return api.View{Size: 40, Strips: []api.Strip{{Q: -1, Low: low, High: high}}, HalfX: span(9, 9), HalfY: span(2, 4)}
	}
	// Of three cameras one may be wrong: two say that X is 10, one that it is 30.
	outvoted := api.View{Size: 40, Wrong: 1, HalfX: span(1, 1), HalfY: span(1, 1), Strips: []api.Strip{{P: 1, Low: 10, High: 10}, {P: 1, Low: 10, High: 10}, {P: 1, Low: 30, High: 30}}}
	doubtful := outvoted
	doubtful.Wrong = 2
	far := upTo(-500, 500)
	for name, x := range map[string]struct {
		v           api.View
		b           api.Box
		call, slack int
	}{
		"B":                          {view(), box(3), api.In, 0},
		"C":                          {view(), box(2), api.Open, -1},
		"D":                          {view(), box(1), api.Out, 0},
		"E":                          {view(), box(0), api.Out, 1},
		"the whole field":            {view(), box(10), api.In, 20},
		"one more":                   {view(), box(4), api.In, 1},
		"larger than the view":       {view(), api.Box{Right: 40, Top: 40}, api.In, 20},
		"outside of the view":        {view(), api.Box{Left: 20, Right: 40, Top: 40}, api.Out, 20},
		"no cameras, in":             {blind, box(10), api.In, 20},
		"no cameras, nearly in":      {blind, box(7), api.Open, -1},
		"no cameras, still in":       {blind, box(8), api.In, 20},
		"no cameras, out":            {blind, wall(15, 20), api.Out, 20},
		"no cameras, nearly out":     {blind, wall(14, 20), api.Open, -1},
		"no cameras, Y nearly in":    {blind, api.Box{Right: 10, Top: 8}, api.Open, -1},
		"no cameras, Y still in":     {blind, api.Box{Right: 10, Top: 9}, api.In, 20},
		"no cameras, Y out":          {blind, floor(14, 20), api.Out, 20},
		"no cameras, Y nearly out":   {blind, floor(13, 20), api.Open, -1},
		"in by 18 at the high end":   {upTo(0, 0), wall(0, 17), api.In, 18},
		"in by 19 at the high end":   {upTo(0, 0), wall(0, 18), api.In, 19},
		"in by 20 at the high end":   {upTo(0, 0), wall(0, 19), api.In, 20},
		"in by 21 at the high end":   {upTo(0, 0), wall(0, 20), api.In, 20},
		"in by 19 at the low end":    {upTo(40, 40), wall(22, 40), api.In, 19},
		"in by 20 at the low end":    {upTo(40, 40), wall(21, 40), api.In, 20},
		"in by 21 at the low end":    {upTo(40, 40), wall(20, 40), api.In, 20},
		"out by 0":                   {upTo(0, 0), wall(2, 40), api.Out, 0},
		"out by 19":                  {upTo(0, 0), wall(21, 40), api.Out, 19},
		"out by 20":                  {upTo(0, 0), wall(22, 40), api.Out, 20},
		"out by 21":                  {upTo(0, 0), wall(23, 40), api.Out, 20},
		"touched at its border":      {upTo(0, 0), wall(1, 3), api.In, 4},
		"strips as wide as can be":   {far, wall(0, 40), api.In, 20},
		"wide strips, and open":      {far, wall(0, 38), api.Open, -1},
		"Y, in":                      {flat(-20, -20), floor(0, 18), api.In, 0},
		"Y, in by 3":                 {flat(-20, -20), floor(0, 21), api.In, 3},
		"Y, in from above by 5":      {flat(-20, -20), floor(13, 22), api.In, 4},
		"Y, open":                    {flat(-20, -20), floor(0, 17), api.Open, -1},
		"Y, open up to here":         {flat(-20, -20), floor(0, 16), api.Open, -1},
		"Y, out":                     {flat(-20, -20), floor(0, 15), api.Out, 0},
		"Y, out by 4":                {flat(-20, -20), floor(0, 11), api.Out, 4},
		"outvoted, in":               {outvoted, wall(5, 12), api.In, 3},
		"outvoted, out":              {outvoted, wall(28, 32), api.Out, 16},
		"outvoted, and two may miss": {doubtful, wall(5, 12), api.Open, -1},
	} {
		if n, e := lines.Call(x.v, x.b); n != x.call || e != api.OK {
			t.Errorf("%s: Call = %d, %d", name, n, e)
		}
		if n, e := lines.Slack(x.v, x.b); n != x.slack || e != api.OK {
			t.Errorf("%s: Slack = %d, %d", name, n, e)
		}
	}
}

// P2.8: TestShow: truths of both kinds, where there are any.
func TestShow(t *testing.T) {
	for i, x := range []struct {
		v    api.View
		b    api.Box
		call int
		e    api.Errno
	}{
		{view(), box(3), api.In, api.OK},
		{view(), box(3), api.Out, api.ErrNone},
		{view(), box(2), api.In, api.OK},
		{view(), box(2), api.Out, api.OK},
		{view(), box(1), api.In, api.ErrNone},
		{view(), box(1), api.Out, api.OK},
		{none(), box(2), api.In, api.ErrNone},
		{none(), box(2), api.Out, api.ErrNone},
		{none(), box(2), api.Open, api.ErrMark},
		{none(), box(2), 0, api.ErrMark},
		{view(), box(2), api.Open, api.ErrMark},
		{view(), box(2), 0, api.ErrMark},
		{view(), box(2), -1, api.ErrMark},
		{view(), box(2), 4, api.ErrMark},
	} {
		m, e := lines.Show(x.v, x.b, x.call)
		if e != x.e || e != api.OK && m != (api.Mark{}) {
			t.Errorf("%d: Show = %v, %d", i, m, e)
		}
		if e == api.OK {
			checkShown(t, x.v, x.b, x.call, m)
		}
	}
}

// checkShown checks a mark that was shown as a truth that touches a box, or does not.
func checkShown(t *testing.T, v api.View, b api.Box, call int, m api.Mark) {
	t.Helper()
	l, e := lines.Wrong(v, m)
	if e != api.OK || len(l) > v.Wrong {
		t.Errorf("Show of %v = %v: about it are wrong %v, %d", v, m, l, e)
	}
	if is, e := lines.Touches(m, b); e != api.OK || is != (call == api.In) || is != hits(m, b) {
		t.Errorf("Show of %v, %v and %d = %v: Touches = %v, %d", v, b, call, m, is, e)
	}
}

// P2.7 to P2.9, P2.12, P2.17: TestCallAll compares calls with all truths of views, and of views with wider strips.
func TestCallAll(t *testing.T) {
	seen := map[int]int{}
	for seed := range uint64(2500) {
		r := random(seed)
		v := randomView(r)
		b := randomBox(r, v.Size+3)
		want, e := callBy(truths(v), b), api.OK
		if want == 0 {
			e = api.ErrNone
		}
		seen[want]++
		if n, f := lines.Call(v, b); n != want || e != f {
			t.Fatalf("seed %d: Call = %d, %d instead of %d", seed, n, f, want)
		}
		for _, call := range []int{api.In, api.Out} {
			m, e := lines.Show(v, b, call)
			switch is := want == call || want == api.Open; {
			case is != (e == api.OK), !is && (e != api.ErrNone || m != api.Mark{}):
				t.Fatalf("seed %d: Show of %d = %v, %d though the call is %d", seed, call, m, e, want)
			case is:
				checkShown(t, v, b, call, m)
			}
		}
		if n, f := lines.Slack(v, b); n != slackBy(v, b, want) || e != f {
			t.Fatalf("seed %d: Slack = %d, %d instead of %d", seed, n, f, slackBy(v, b, want))
		}
	}
	if len(seen) != 4 || min(seen[0], seen[api.In], seen[api.Out], seen[api.Open]) < 100 {
		t.Errorf("calls: %v", seen)
	}
}

// slackBy returns the slack of a call by all truths of views with wider strips.
func slackBy(v api.View, b api.Box, call int) int {
	if call == api.Open {
		return -1
	}
	n := 0
	for call != 0 && n < 20 && callBy(truths(wider(v, n+1)), b) == call {
		n++
	}
	return n
}

// P2.10: TestDecide: the calls that were said, against those of views.
func TestDecide(t *testing.T) {
	for i, x := range []struct {
		said int
		v    api.View
		b    api.Box
		want int
		kept bool
		e    api.Errno
	}{
		{api.In, view(), box(3), api.In, false, api.OK},
		{api.Out, view(), box(3), api.In, true, api.OK},
		{api.In, view(), box(2), api.In, true, api.OK},
		{api.Out, view(), box(2), api.Out, true, api.OK},
		{api.In, view(), box(1), api.Out, true, api.OK},
		{api.Out, view(), box(1), api.Out, false, api.OK},
		{api.In, none(), box(3), api.In, true, api.OK},
		{api.Out, none(), box(3), api.Out, true, api.OK},
		{api.Open, view(), box(2), 0, false, api.ErrMark},
		{0, view(), box(2), 0, false, api.ErrMark},
		{4, view(), box(3), 0, false, api.ErrMark},
		{-1, none(), box(3), 0, false, api.ErrMark},
	} {
		n, kept, e := lines.Decide(x.said, x.v, x.b)
		if n != x.want || kept != x.kept || e != x.e {
			t.Errorf("%d: Decide = %d, %v, %d", i, n, kept, e)
		}
	}
}
