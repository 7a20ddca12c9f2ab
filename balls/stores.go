package balls

import "deuce/api"

// The items, and how many there are.
const (
	cans = iota
	towels
	racquets
	items
)

// need is the least and the greatest number of each item that a match still needs.
type need [items]api.Span

// days is a least and a greatest number for each day.
type days [api.MaxDay + 1]api.Span

func plus(a, b api.Span) api.Span { return api.Span{Low: a.Low + b.Low, High: a.High + b.High} }

// less returns what is left of a when b is taken from it, whichever they are.
func less(a, b api.Span) api.Span { return api.Span{Low: a.Low - b.High, High: a.High - b.Low} }

func times(s api.Span, n int) api.Span { return api.Span{Low: s.Low * n, High: s.High * n} }

// just returns the span of one number.
func just(n int) api.Span { return api.Span{Low: n, High: n} }

// needOf returns what a match still needs.
func needOf(k api.Kit, f api.Fixture) need {
	changes, sets := rest(f.Format, f.Board)
	players, starts := 2, just(0)
	if f.Format.Doubles {
		players = 4
	}
	if !begun(f.Board) {
		starts = just(1)
	}
	return need{
		cans:     times(plus(starts, changes), k.Each),
		towels:   times(sets, players*k.Towels),
		racquets: times(starts, players*k.Frames),
	}
}

// needs returns how many of an item the matches of each day still need.
func needs(d api.Depot, item int) days {
	var out days
	for _, f := range d.Fixtures {
		n := needOf(d.Kit, f)
		out[f.Day] = plus(out[f.Day], n[item])
	}
	return out
}

// lefts returns how many of an item are left on each day.
func lefts(d api.Depot, item int) days {
	out := needs(d, item)
	var crates days
	for _, c := range d.Crates {
		if c.Item == item {
			crates[c.Day] = plus(crates[c.Day], just(c.Count))
		}
	}
	now := just(d.Stock[item])
	for day, n := range out {
		now = less(plus(now, crates[day]), n)
		out[day] = now
	}
	return out
}
