package balls

import (
	"slices"

	"deuce/api"
	"deuce/score"
)

func within(n, low, high int) bool { return low <= n && n <= high }

func validItem(item int) bool { return within(item, 0, items-1) }

func validDay(day int) bool { return within(day, 0, api.MaxDay) }

// accept returns the error of a match of which it is asked what still comes.
func accept(f api.Format, b api.Board) api.Errno {
	arises, e := score.Arises(f, b)
	if e != api.OK {
		return e
	}
	if !arises {
		return api.ErrBoard
	}
	if games, _, _ := score.Range(f); games.High == -1 {
		return api.ErrNone
	}
	return api.OK
}

// asked returns the error of a question about an item of a depot on a day.
func asked(d api.Depot, item, day int) api.Errno {
	if !validDepot(d) {
		return api.ErrDepot
	}
	if !validItem(item) || !validDay(day) {
		return api.ErrArg
	}
	return api.OK
}

func validDepot(d api.Depot) bool {
	return validKit(d.Kit) && validStock(d.Stock) && validFixtures(d.Fixtures) && validCrates(d.Crates)
}

func validKit(k api.Kit) bool {
	return within(k.Each, 0, api.MaxKit) && within(k.Towels, 0, api.MaxKit) && within(k.Frames, 0, api.MaxKit)
}

func validStock(stock []int) bool {
	wrong := func(count int) bool { return !within(count, 0, api.MaxStock) }
	return len(stock) == items && !slices.ContainsFunc(stock, wrong)
}

func validFixtures(l []api.Fixture) bool {
	wrong := func(f api.Fixture) bool { return !validDay(f.Day) || accept(f.Format, f.Board) != api.OK }
	return len(l) <= api.MaxFixtures && !slices.ContainsFunc(l, wrong)
}

func validCrates(l []api.Crate) bool {
	wrong := func(c api.Crate) bool {
		return !validDay(c.Day) || !validItem(c.Item) || !within(c.Count, 0, api.MaxStock)
	}
	return len(l) <= api.MaxFixtures && !slices.ContainsFunc(l, wrong)
}
