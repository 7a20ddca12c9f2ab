package referee

import (
	"deuce/api"
	"deuce/entry"
)

// hour goes on to an hour.
func (w *work) hour(n []int) string {
	if n[0] < w.Hour || n[0] > api.MaxHour {
		return no
	}
	w.Hour = n[0]
	return yes
}

// notice returns what a notice of a kind does: it has a player, and some kinds have a rank.
func (w *work) notice(kind int) func(n []int) string {
	return func(n []int) string {
		if len(w.Notices) == api.MaxNotices {
			return full
		}
		next := api.Notice{Id: len(w.Notices), Hour: w.Hour, Kind: kind, Player: n[0]}
		if len(n) > 1 {
			next.Rank = n[1]
		}
		notices := append(w.Notices, next)
		if entry.Check(w.Field, notices) != api.OK {
			return no
		}
		w.Notices = notices
		return yes
	}
}

// entries returns the answer with one of the lists of entries.
func (w *work) entries(which func(l api.Entries) []int) func(n []int) string {
	return func([]int) string {
		l, _ := entry.List(w.Field, w.Notices, w.Hour)
		return list(which(l))
	}
}

// stand tells where a player is.
func (w *work) stand(n []int) string {
	where, place, e := entry.Stand(w.Field, w.Notices, w.Hour, n[0])
	if e != api.OK {
		return no
	}
	return list([]int{where, place})
}
