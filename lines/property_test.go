package lines_test

import (
	"math/rand/v2"
	"slices"
	"testing"

	"deuce/api"
	"deuce/lines"
)

// eachView calls a function with small views and boxes.
func eachView(t *testing.T, do func(t *testing.T, r *rand.Rand, v api.View, b api.Box)) {
	t.Helper()
	for seed := range uint64(1500) {
		r := random(seed)
		v := randomView(r)
		do(t, r, v, randomBox(r, v.Size))
		if t.Failed() {
			t.Fatalf("seed %d", seed)
		}
	}
}

// P2.12: TestSureCalls: a sure call is so in each truth, and an open one in some of them.
func TestSureCalls(t *testing.T) {
	eachView(t, func(t *testing.T, r *rand.Rand, v api.View, b api.Box) {
		call, e := lines.Call(v, b)
		all := truths(v)
		if (e == api.ErrNone) != (len(all) == 0) {
			t.Errorf("%d truths, %d", len(all), e)
		}
		in := 0
		for _, m := range all {
			if is, _ := lines.Touches(m, b); is {
				in++
			}
		}
		if call == api.In && in != len(all) || call == api.Out && in != 0 || call == api.Open && (in == 0 || in == len(all)) {
			t.Errorf("the call %d, though %d of %d truths touch", call, in, len(all))
		}
		_, e = lines.Show(v, b, api.In)
		_, f := lines.Show(v, b, api.Out)
		if (e == api.OK) != (in > 0) || (f == api.OK) != (in < len(all)) {
			t.Errorf("Show: %d, %d, though %d of %d truths touch", e, f, in, len(all))
		}
	})
}

// lessKnown returns views that know less than another one does.
func lessKnown(v api.View) map[string]api.View {
	out := map[string]api.View{}
	change := func(name string, do func(v *api.View)) {
		w := copied(v)
		do(&w)
		if lines.Check(w) == api.OK {
			out[name] = w
		}
	}
	change("wrong", func(v *api.View) { v.Wrong++ })
	change("half X below", func(v *api.View) { v.HalfX.Low-- })
	change("half X above", func(v *api.View) { v.HalfX.High++ })
	change("half Y below", func(v *api.View) { v.HalfY.Low-- })
	change("half Y above", func(v *api.View) { v.HalfY.High++ })
	if last := len(v.Strips) - 1; last >= 0 {
		change("low", func(v *api.View) { v.Strips[last].Low -= 2 })
		change("high", func(v *api.View) { v.Strips[0].High += 2 })
		change("the first left out", func(v *api.View) { v.Strips = v.Strips[1:] })
		change("the last left out", func(v *api.View) { v.Strips = v.Strips[:last] })
	}
	return out
}

// P2.13: TestLessKnown: who knows less has all truths that there were, and no other sure call.
func TestLessKnown(t *testing.T) {
	opened := 0
	eachView(t, func(t *testing.T, r *rand.Rand, v api.View, b api.Box) {
		call, _ := lines.Call(v, b)
		many, _, _, _ := lines.Centres(v)
		for name, w := range lessKnown(v) {
			now, e := lines.Call(w, b)
			if call != 0 && (e != api.OK || now != call && now != api.Open) {
				t.Errorf("%s: the call %d instead of %d, %d", name, now, call, e)
			}
			if call != now && call != 0 {
				opened++
			}
			if n, _, _, _ := lines.Centres(w); n < many {
				t.Errorf("%s: %d centres instead of %d", name, n, many)
			}
			for _, m := range truths(v) {
				if l, e := lines.Wrong(w, m); e != api.OK || len(l) > w.Wrong {
					t.Errorf("%s: %v is no truth any more, %d", name, m, e)
				}
			}
		}
	})
	if opened < 100 {
		t.Errorf("only %d calls became open", opened)
	}
}

// P2.14: TestLargerBox: what touches a box touches each larger one.
func TestLargerBox(t *testing.T) {
	eachView(t, func(t *testing.T, r *rand.Rand, v api.View, b api.Box) {
		large := api.Box{Left: r.IntN(b.Left + 1), Right: b.Right + r.IntN(3), Bottom: r.IntN(b.Bottom + 1), Top: b.Top + r.IntN(3)}
		for _, m := range truths(v) {
			inner, _ := lines.Touches(m, b)
			if outer, e := lines.Touches(m, large); inner && !outer || e != api.OK {
				t.Errorf("%v touches %v, but not %v, %d", m, b, large, e)
			}
		}
		inner, _ := lines.Call(v, b)
		outer, _ := lines.Call(v, large)
		if inner == api.In && outer != api.In || outer == api.Out && inner != api.Out {
			t.Errorf("the call %d of %v, %d of %v", inner, b, outer, large)
		}
	})
}

// exchanged returns a view and a box whose X are Y.
func exchanged(v api.View, b api.Box) (api.View, api.Box) {
	v = copied(v)
	for i, s := range v.Strips {
		v.Strips[i].P, v.Strips[i].Q = s.Q, s.P
	}
	v.HalfX, v.HalfY = v.HalfY, v.HalfX
	return v, api.Box{Left: b.Bottom, Right: b.Top, Bottom: b.Left, Top: b.Right}
}

// turned returns a view and a box whose X are the size less X.
func turned(v api.View, b api.Box) (api.View, api.Box) {
	v = copied(v)
	for i, s := range v.Strips {
		v.Strips[i].P = -s.P
		v.Strips[i].Low -= s.P * v.Size
		v.Strips[i].High -= s.P * v.Size
	}
	return v, api.Box{Left: v.Size - b.Right, Right: v.Size - b.Left, Bottom: b.Bottom, Top: b.Top}
}

// P2.15: TestMirror: in a mirror all is the same.
func TestMirror(t *testing.T) {
	eachView(t, func(t *testing.T, r *rand.Rand, v api.View, b api.Box) {
		for name, mirror := range map[string]func(api.View, api.Box) (api.View, api.Box){"exchanged": exchanged, "turned": turned} {
			w, c := mirror(v, b)
			one, e := lines.Call(v, b)
			two, f := lines.Call(w, c)
			if one != two || e != f {
				t.Errorf("%s: the call %d instead of %d, %d", name, two, one, f)
			}
			one, _ = lines.Slack(v, b)
			two, _ = lines.Slack(w, c)
			if one != two {
				t.Errorf("%s: the slack %d instead of %d", name, two, one)
			}
			l, _ := lines.Blame(v)
			if k, _ := lines.Blame(w); !slices.Equal(k, l) {
				t.Errorf("%s: to blame are %v instead of %v", name, k, l)
			}
		}
	})
}

// P2.16: TestCameras: a camera to blame is wrong in each truth, and the fewest wrong ones tell whether there is a truth.
func TestCameras(t *testing.T) {
	eachView(t, func(t *testing.T, r *rand.Rand, v api.View, b api.Box) {
		blame, e := lines.Blame(v)
		fewest, f := lines.Fewest(v)
		many, _, _, _ := lines.Centres(v)
		if (fewest <= v.Wrong) != (e == api.OK) || (many > 0) != (e == api.OK) || f != api.OK {
			t.Errorf("%d wrong of at most %d, %d centres, %d, %d", fewest, v.Wrong, many, e, f)
		}
		for _, m := range truths(v) {
			wrong, _ := lines.Wrong(v, m)
			if len(wrong) < fewest {
				t.Errorf("%v are wrong, but %d are the fewest", wrong, fewest)
			}
			for _, camera := range blame {
				if !slices.Contains(wrong, camera) {
					t.Errorf("%v are to blame, but only %v are wrong", blame, wrong)
				}
			}
		}
		for i := range v.Strips {
			right := func(m api.Mark) bool { return !slices.Contains(wrongAt(v, m.X, m.Y), i) }
			if e == api.OK && !slices.Contains(blame, i) && !slices.ContainsFunc(truths(v), right) {
				t.Errorf("%v are to blame, but not %d", blame, i)
			}
		}
	})
}

// P2.17: TestSlack: with strips wider by the slack the call is the same, and with one more it is not.
func TestSlack(t *testing.T) {
	seen := map[int]int{}
	eachView(t, func(t *testing.T, r *rand.Rand, v api.View, b api.Box) {
		call, e := lines.Call(v, b)
		slack, f := lines.Slack(v, b)
		seen[slack]++
		if e != f || (call == api.Open) != (slack == -1) || slack > 20 {
			t.Errorf("the slack %d of the call %d, %d, %d", slack, call, e, f)
		}
		if slack < 0 || e != api.OK {
			return
		}
		if same, e := lines.Call(wider(v, slack), b); same != call || e != api.OK {
			t.Errorf("the slack is %d, but the call is %d instead of %d, %d", slack, same, call, e)
		}
		if other, e := lines.Call(wider(v, slack+1), b); slack < 20 && other != api.Open || e != api.OK {
			t.Errorf("the slack is %d, but with one more the call is %d, %d", slack, other, e)
		}
	})
	if len(seen) < 6 || seen[20] == 0 {
		t.Errorf("slacks: %v", seen)
	}
}
