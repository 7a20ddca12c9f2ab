package referee_test

import (
	"fmt"
	"math/rand/v2"
	"slices"
	"strconv"
	"strings"
	"testing"

	"deuce/api"
	"deuce/bracket"
	"deuce/entry"
	"deuce/score"
)

// behind returns the answers to some lines behind a script.
func behind(t *testing.T, d api.Desk, script []string, lines ...string) []string {
	t.Helper()
	answers, _ := run(t, d, slices.Concat(script, lines))
	return answers[len(script):]
}

// P12.5: TestMatch: the points of an open match lead to the score of score.Play, and its winner to a slip by which bracket knows it; a match is opened only when both its players are sure.
func TestMatch(t *testing.T) {
	opened, scored, over := 0, 0, 0
	eachStory(t, 200, 60, func(t *testing.T, r *rand.Rand, s story) {
		_, before := run(t, s.d, nil)
		for i, line := range s.script {
			answers, after := run(t, s.d, s.script[:i+1])
			answer := answers[i]
			if after.Round != -1 && before.Round == -1 {
				opened++
				if answer != "ok" || !isReady(t, s.d, before, after.Round, after.Place) {
					t.Errorf("%q opens %d %d, which is not ready", line, after.Round, after.Place)
				}
			}
			if after.Round != -1 {
				scored++
				x, e := score.Play(s.d.Format, after.First, after.Points)
				told := behind(t, s.d, s.script[:i+1], "score", "server")
				if e != api.OK || x.Winner != -1 || told[0] != scoreBy(x.Board) || told[1] != strconv.Itoa(x.Server) {
					t.Errorf("score and server are %q, Play = %v, %d", told, x, e)
				}
			}
			if before.Round != -1 && after.Round == -1 {
				over++
				winner, e := bracket.Winner(s.d.Tree, after.Slips, before.Round, before.Place)
				if e != api.OK || answer != strconv.Itoa(winner) || len(after.Slips) != len(before.Slips)+1 {
					t.Errorf("the answer to %q is %q, Winner = %d, %d", line, answer, winner, e)
				}
			}
			before = after
		}
	})
	if opened < 200 || scored < 1000 || over < 150 {
		t.Errorf("only %d matches are opened, %d times one is open, %d are over", opened, scored, over)
	}
}

// isReady reports whether a match can be played.
func isReady(t *testing.T, d api.Desk, r api.Register, round, place int) bool {
	t.Helper()
	return slices.ContainsFunc(readyOf(t, d, r), func(b api.Bout) bool {
		return b.Round == round && b.Place == place && b.One >= 0 && b.Two >= 0
	})
}

// P12.6: TestList: what main, wilds and out answer is entry.List of the notices of the register at its Hour.
func TestList(t *testing.T) {
	some := 0
	eachStory(t, 200, 77, func(t *testing.T, r *rand.Rand, s story) {
		_, at := run(t, s.d, s.script)
		told := behind(t, s.d, s.script, "main", "wilds", "out")
		l, e := entry.List(s.d.Field, at.Notices, at.Hour)
		if wanted := []string{listBy(l.Main), listBy(l.Wilds), listBy(l.Out)}; e != api.OK || !slices.Equal(told, wanted) {
			t.Errorf("the lists are %q, not %q, %d", told, wanted, e)
		}
		count(&some, len(l.Main) > 1 && len(l.Wilds)+len(l.Out) > 0)
	})
	if some < 50 {
		t.Errorf("only %d lists have several players", some)
	}
}

// P12.7: TestLineByLine: the first answers, and what is known behind them, are the same, whatever lines come later.
func TestLineByLine(t *testing.T) {
	eachStory(t, 100, api.MaxScript, func(t *testing.T, r *rand.Rand, s story) {
		whole, _ := run(t, s.d, s.script)
		for lines := range s.script {
			answers, at := run(t, s.d, s.script[:lines])
			if !slices.Equal(answers, whole[:lines]) || !same(at, s.registers[lines]) {
				t.Errorf("the first %d answers are %q, then %q; %v", lines, answers, whole, at)
			}
		}
	})
}

// asks reports whether a line only asks: it is one of those that tell something, or none at all.
func asks(line, answer string) bool {
	word, _, _ := strings.Cut(line, " ")
	return answer == "?" || answer == "no" || answer == "full" || slices.Contains(strings.Fields("main wilds out stand score server winner may left jobs need stuck"), word)
}

// P12.7: TestAsk: lines that only ask, or are refused, change nothing: without them all other answers, and the register, are the same.
func TestAsk(t *testing.T) {
	left := 0
	eachStory(t, 300, api.MaxScript, func(t *testing.T, r *rand.Rand, s story) {
		answers, at := run(t, s.d, s.script)
		var script, wanted []string
		for i, line := range s.script {
			if asks(line, answers[i]) {
				left++
			} else {
				script, wanted = append(script, line), append(wanted, answers[i])
			}
		}
		got, other := run(t, s.d, script)
		if !slices.Equal(got, wanted) || !same(at, other) {
			t.Errorf("without asking %q is answered %q, not %q; %v, not %v", script, got, wanted, other, at)
		}
	})
	if left < 3000 {
		t.Errorf("only %d lines are left out", left)
	}
}

// P12.9: TestReplay: a tournament that is read from its file leads to the same answers and the same register.
func TestReplay(t *testing.T) {
	eachStory(t, 200, api.MaxScript, func(t *testing.T, r *rand.Rand, s story) {
		script := slices.DeleteFunc(slices.Clone(s.script), func(line string) bool { return strings.ContainsAny(line, "\t\n\xff") })
		answers, at := run(t, s.d, script)
		again, other := run(t, s.d, read(t, written(t, script)))
		if !slices.Equal(answers, again) || !same(at, other) {
			t.Errorf("the answers are %q, then %q; %v, then %v", answers, again, at, other)
		}
	})
}

// daysNeeded returns the number of an answer to need: more than all days if no order fits.
func daysNeeded(answer string) int {
	if answer == "never" {
		return api.MaxDays + 1
	}
	n, _ := strconv.Atoi(answer)
	return n
}

// P12.10: TestLonger: with courts that are open longer need is no greater, and stuck no earlier.
func TestLonger(t *testing.T) {
	compared, fewer := 0, 0
	for seed := range uint64(2500) {
		r := random(seed)
		d := randomDesk(r, 1+r.IntN(3))
		day, court := r.IntN(len(d.Days)), r.IntN(len(d.Days[0]))
		hours := d.Days[day][court]
		longer := fmt.Sprintf("close %d %d %d %d", day, court, r.IntN(hours.Low+1), hours.High+r.IntN(400))
		answers, _ := run(t, d, []string{"need", "stuck", longer, "need", "stuck"})
		if answers[2] != "ok" {
			t.Fatalf("seed %d: the answer to %q is %q", seed, longer, answers[2])
		}
		if answers[0] == "full" {
			continue
		}
		compared++
		before, after := daysNeeded(answers[0]), daysNeeded(answers[3])
		early, late := firstStuck(answers[1]), firstStuck(answers[4])
		if before < after || early > late || (before > api.MaxDays) != (early < api.MaxDays) {
			t.Errorf("seed %d: with %v, and %q, the answers are %q", seed, d.Days, longer, answers)
		}
		count(&fewer, before > after)
	}
	if compared < 1500 || fewer < 100 {
		t.Errorf("only %d are compared, %d need fewer days", compared, fewer)
	}
}

// firstStuck returns the day of an answer to stuck: one behind all days if some order fits.
func firstStuck(answer string) int {
	if answer == "none" {
		return api.MaxDays
	}
	n, _ := strconv.Atoi(answer)
	return n
}

// P12.10: TestOneLess: with each match that is over jobs is one less, and with all other lines it is the same.
func TestOneLess(t *testing.T) {
	less, equal := 0, 0
	eachStory(t, 200, api.MaxScript-1, func(t *testing.T, r *rand.Rand, s story) {
		before := behind(t, s.d, nil, "jobs")[0]
		results := 0
		for i := range s.script {
			after := behind(t, s.d, s.script[:i+1], "jobs")[0]
			_, at := run(t, s.d, s.script[:i+1])
			over := resultsOf(at) - results
			results += over
			if before != "full" {
				n, _ := strconv.Atoi(before)
				if after != strconv.Itoa(n-over) {
					t.Errorf("behind %q there are %q jobs, before it %q", s.script[i], after, before)
				}
				count(&less, over == 1)
				count(&equal, over == 0)
			}
			before = after
		}
	})
	if less < 200 || equal < 1000 {
		t.Errorf("only %d times one less, %d times as many", less, equal)
	}
}

// resultsOf returns how many slips are about matches.
func resultsOf(r api.Register) int {
	n := 0
	for _, s := range r.Slips {
		count(&n, s.Kind != api.Lucky)
	}
	return n
}
