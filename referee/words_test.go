package referee_test

import (
	"fmt"
	"regexp"
	"slices"
	"strconv"
	"strings"
	"testing"

	"deuce/api"
	"deuce/bracket"
	"deuce/entry"
	"deuce/play"
	"deuce/score"
)

// lineBy is the chapter's words about lines: a word, and numbers.
var lineBy = regexp.MustCompile(`^[a-z]+( (0|[1-9][0-9]{0,5}))*$`)

// answerBy returns the answer to a line, and what is known behind it, by the chapter's words.
func answerBy(t *testing.T, d api.Desk, r api.Register, line string) (string, api.Register) {
	t.Helper()
	if !lineBy.MatchString(line) {
		return "?", r
	}
	words := strings.Split(line, " ")
	var n []int
	for _, word := range words[1:] {
		number, _ := strconv.Atoi(word)
		n = append(n, number)
	}
	after := copiedRegister(r)
	told := "?"
	for _, by := range []func(d api.Desk, r *api.Register, word string, n []int) string{entriesBy, matchBy, drawBy, courtsBy} {
		if told == "?" {
			told = by(d, &after, words[0]+strings.Repeat(" 0", len(n)), n)
		}
	}
	if told == "?" || told == "no" || told == "full" {
		return told, r
	}
	return told, after
}

// listBy is the chapter's words about lists.
func listBy(l []int) string {
	if len(l) == 0 {
		return "none"
	}
	return strings.Trim(fmt.Sprint(l), "[]")
}

// entriesBy is the chapter's words about entries. The words of a line have a 0 for each number.
func entriesBy(d api.Desk, r *api.Register, words string, n []int) string {
	kinds := map[string]int{"enter 0 0": api.Enter, "guard 0 0": api.Guard, "wild 0": api.Wild, "quit 0": api.Quits, "sign 0": api.Sign}
	if kind, is := kinds[words]; is {
		if len(r.Notices) >= 60 {
			return "full"
		}
		r.Notices = append(r.Notices, api.Notice{Id: len(r.Notices), Hour: r.Hour, Kind: kind, Player: n[0], Rank: append(n, 0)[1]})
		if entry.Check(d.Field, r.Notices) != api.OK {
			return "no"
		}
		return "ok"
	}
	l, _ := entry.List(d.Field, r.Notices, r.Hour)
	switch words {
	case "main":
		return listBy(l.Main)
	case "wilds":
		return listBy(l.Wilds)
	case "out":
		return listBy(l.Out)
	case "stand 0":
		where, place, e := entry.Stand(d.Field, r.Notices, r.Hour, n[0])
		if e != api.OK {
			return "no"
		}
		return fmt.Sprintf("%d %d", where, place)
	case "hour 0":
		if n[0] < r.Hour || n[0] > 9999 {
			return "no"
		}
		r.Hour = n[0]
		return "ok"
	}
	return "?"
}

// boutBy returns a match, and whether it is ready: both players are sure, and the winner is not.
func boutBy(d api.Desk, r *api.Register, round, place int) (api.Bout, bool) {
	l, _ := bracket.Bouts(d.Tree, r.Slips)
	for _, b := range l {
		if b.Round == round && b.Place == place {
			_, e := bracket.Winner(d.Tree, r.Slips, round, place)
			return b, e == api.ErrNone && b.One >= 0 && b.Two >= 0
		}
	}
	return api.Bout{}, false
}

// endBy is what happens when a side has won the open match.
func endBy(d api.Desk, r *api.Register, kind, side int) string {
	b, _ := boutBy(d, r, r.Round, r.Place)
	winner := []int{b.One, b.Two}[side]
	r.Slips = append(r.Slips, won(kind, r.Round, r.Place, winner))
	r.Round, r.Place, r.First, r.Points = -1, -1, 0, nil
	if len(r.Slips) > 60 {
		return "full"
	}
	return strconv.Itoa(winner)
}

// scoreBy is the chapter's words about the score of a match.
func scoreBy(b api.Board) string {
	out := ""
	for _, p := range b.Sets {
		out += fmt.Sprintf("%d-%d ", p.A, p.B)
	}
	return out + fmt.Sprintf("%d-%d %d-%d", b.Games.A, b.Games.B, b.Points.A, b.Points.B)
}

// matchBy is the chapter's words about the open match.
func matchBy(d api.Desk, r *api.Register, words string, n []int) string {
	open := r.Round != -1
	side := func() bool { return n[0] == 0 || n[0] == 1 }
	switch words {
	case "open 0 0 0":
		_, ready := boutBy(d, r, n[0], n[1])
		if open || n[2] > 1 || !ready {
			return "no"
		}
		r.Round, r.Place, r.First = n[0], n[1], n[2]
		return "ok"
	case "score", "server":
		if !open {
			return "no"
		}
		s, _ := score.Play(d.Format, r.First, r.Points)
		if words == "score" {
			return scoreBy(s.Board)
		}
		return strconv.Itoa(s.Server)
	case "point 0", "retire 0", "default 0":
		if !open || !side() {
			return "no"
		}
	}
	switch words {
	case "point 0":
		r.Points = append(r.Points, n[0])
		if s, _ := score.Play(d.Format, r.First, r.Points); s.Winner != -1 {
			return endBy(d, r, api.Played, n[0])
		}
		return "ok"
	case "retire 0":
		return endBy(d, r, api.Retired, 1-n[0])
	case "default 0":
		return endBy(d, r, api.Default, 1-n[0])
	}
	return "?"
}

// drawBy is the chapter's words about the draw.
func drawBy(d api.Desk, r *api.Register, words string, n []int) string {
	switch words {
	case "walk 0 0 0":
		b, ready := boutBy(d, r, n[0], n[1])
		if r.Round == n[0] && r.Place == n[1] || !ready || !slices.Contains([]int{b.One, b.Two}, n[2]) {
			return "no"
		}
		r.Slips = append(r.Slips, won(api.Walkover, n[0], n[1], n[2]))
		if len(r.Slips) > 60 {
			return "full"
		}
		return "ok"
	case "lucky 0 0 0":
		r.Slips = append(r.Slips, lucky(n[0], n[1], n[2]))
		switch {
		case r.Round != -1:
			return "no"
		case len(r.Slips) > 60:
			return "full"
		case bracket.Check(d.Tree, r.Slips) != api.OK:
			return "no"
		}
		return "ok"
	case "winner 0 0":
		player, e := bracket.Winner(d.Tree, r.Slips, n[0], n[1])
		return map[api.Errno]string{api.OK: strconv.Itoa(player), api.ErrNone: "none", api.ErrArg: "no"}[e]
	case "may 0 0":
		if l, e := bracket.May(d.Tree, r.Slips, n[0], n[1]); e == api.OK {
			return listBy(l)
		}
		return "no"
	case "left":
		left, _ := bracket.Left(d.Tree, r.Slips)
		return strconv.Itoa(left)
	}
	return "?"
}

// courtsBy is the chapter's words about the courts.
func courtsBy(d api.Desk, r *api.Register, words string, n []int) string {
	jobs, _, e := play.Jobs(d.Tree, r.Slips, d.Stages)
	p := api.Program{Days: r.Days, Rest: d.Rest, Jobs: jobs}
	switch words {
	case "close 0 0 0 0":
		if n[0] >= len(r.Days) || n[1] >= len(r.Days[0]) || n[2] > n[3] || n[3] > 1440 {
			return "no"
		}
		r.Days[n[0]][n[1]] = span(n[2], n[3])
		return "ok"
	case "jobs", "need", "stuck":
		if e == api.ErrMany {
			return "full"
		}
	}
	switch words {
	case "jobs":
		return strconv.Itoa(len(jobs))
	case "need":
		days, e := play.Days(p)
		return map[api.Errno]string{api.OK: strconv.Itoa(days), api.ErrNone: "never"}[e]
	case "stuck":
		day, _ := play.Stuck(p)
		if day == -1 {
			return "none"
		}
		return strconv.Itoa(day)
	}
	return "?"
}
