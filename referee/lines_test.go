package referee_test

import (
	"math/rand/v2"
	"strings"
	"testing"

	"deuce/api"
)

// P12.2: TestExample: the chapter's example.
func TestExample(t *testing.T) {
	r := check(t, example(), "enter 5 20: ok", "enter 6 10: ok", "main: 6 5", "need: 1", "open 0 0 1: ok", "point 0: ok", "score: 0-0 1-0", "server: 0", "point 0: 7", "left: 0", "jobs: 0", "point 0: no", "hour 07: ?")
	wanted := beginning(example())
	wanted.Notices = []api.Notice{{Id: 0, Kind: api.Enter, Player: 5, Rank: 20}, {Id: 1, Kind: api.Enter, Player: 6, Rank: 10}}
	wanted.Slips = []api.Slip{won(api.Played, 0, 0, 7)}
	if !same(r, wanted) {
		t.Errorf("the register is %+v", r)
	}
}

// all is all lines that there are, with numbers that are not refused, one after the other.
func all() []string {
	return []string{"hour 1: ok", "enter 5 0: ok", "guard 6 1: ok", "wild 5: ok", "sign 6: ok", "quit 6: ok", "main: none", "wilds: 5", "out: none", "stand 5: 2 1", "open 0 0 0: ok", "point 0: ok", "score: 0-0 1-0", "server: 1", "retire 0: 2", "open 0 1 1: ok", "default 1: 3", "walk 1 0 2: ok", "lucky 3 5 4: ok", "winner 1 0: 2", "may 0 1: 3", "left: 0", "close 0 1 0 0: ok", "jobs: 0", "need: 0", "stuck: none"}
}

// P12.2: TestAll: there are all lines of the chapter.
func TestAll(t *testing.T) {
	check(t, four(), all())
}

// broken returns lines that are not quite a line: it has other numbers of words, other spaces, or other letters.
func broken(line string) []string {
	out := []string{line + " 0", line + " ", " " + line, line + "\n", "\t" + line, line + "\x00", strings.ToUpper(line), line + " 0 0 0 0", line[1:], strings.ToUpper(line[:1]) + line[1:], line + "\xc2\xa0"}
	words := strings.Split(line, " ")
	if len(words) == 1 {
		return append(out, line+"0", "x"+line)
	}
	out = append(out, strings.Join(words[:len(words)-1], " "), words[0], strings.Replace(line, " ", "  ", 1), strings.ReplaceAll(line, " ", "\t"), strings.ReplaceAll(line, " ", ""), strings.ReplaceAll(line, " ", "_"))
	for at := range words[1:] {
		for _, word := range []string{"00", "0" + words[at+1], "-" + words[at+1], "+" + words[at+1], words[at+1] + ".", "x", "", "1000000", "0x1", "1_0", "1e0", "٠", "\xff", "1" + words[at+1] + "00000", "99999999999999999999", "18446744073709551616", "/", ":"} {
			other := append([]string{}, words...)
			other[at+1] = word
			out = append(out, strings.Join(other, " "))
		}
	}
	return out
}

// P12.2: TestBroken: the answer to a line that is not as described is ?, and it changes nothing.
func TestBroken(t *testing.T) {
	script, _ := split(all())
	for i, line := range script {
		_, before := run(t, four(), script[:i])
		wrong := broken(line)
		for len(wrong) > 0 {
			some := wrong[:min(len(wrong), api.MaxScript-i)]
			wrong = wrong[len(some):]
			answers, r := run(t, four(), append(script[:i:i], some...))
			for at, other := range some {
				if answers[i+at] != "?" {
					t.Errorf("the answer to %q is %q", other, answers[i+at])
				}
			}
			if !same(r, before) {
				t.Errorf("behind lines like %q the register is %v, not %v", some[0], r, before)
			}
		}
	}
}

// P12.2: TestNone: other words are no lines.
func TestNone(t *testing.T) {
	for _, line := range []string{"", " ", "?", "ok", "no", "none", "full", "never", "0", "7 8", "mains", "mai", "wilds 0", "wild", "notice 1", "default", "lists", "leave 0", "answer", "shut", "ready 0 0", "check", "enter", "\n", "é", "\xff\xfe", "main\x00"} {
		check(t, four(), line+": ?")
	}
}

// P12.2: TestNumbersOfLines: a number has at most 6 digits, and no 0 before others.
func TestNumbersOfLines(t *testing.T) {
	check(t, four(), "stand 0: 0 0", "stand 9: 0 0", "stand 10: 0 0", "stand 999: 0 0", "stand 1000: no", "stand 100000: no", "stand 999999: no", "stand 1000000: ?", "stand 000000: ?", "stand 000001: ?", "stand 0999: ?", "stand 9999999: ?", "hour 9999: ok", "hour 999999: no", "point 999999: no", "enter 999999 999999: no", "open 999999 999999 999999: no", "walk 0 999999 1: no", "lucky 999999 9 1: no", "winner 999999 0: no", "may 0 999999: no", "close 999999 0 0 0: no", "close 0 999999 0 0: no", "close 0 0 0 999999: no", "close 0 0 999999 999999: no")
}

// answersToSee is the answers that random stories must have often.
const answersToSee = "hour: ok, hour: no, enter: ok, enter: no, guard: ok, guard: no, wild: ok, quit: ok, sign: ok, " +
	"main: numbers, main: none, wilds: numbers, wilds: none, out: numbers, out: none, stand: numbers, stand: no, " +
	"open: ok, open: no, point: ok, point: numbers, point: no, score: numbers, score: no, server: numbers, server: no, " +
	"retire: numbers, retire: no, default: numbers, default: no, walk: ok, walk: no, lucky: ok, lucky: no, " +
	"winner: numbers, winner: none, winner: no, may: numbers, may: no, left: numbers, close: ok, close: no, " +
	"jobs: numbers, jobs: full, need: numbers, need: never, need: full, stuck: numbers, stuck: none, stuck: full"

// P12.2: TestWords: the answers, and what is known behind them, are those of the chapter's words.
func TestWords(t *testing.T) {
	told := map[string]int{}
	eachStory(t, 600, api.MaxScript, func(t *testing.T, r *rand.Rand, s story) {
		answers, last := run(t, s.d, s.script)
		for i, line := range s.script {
			if answers[i] != s.answers[i] {
				t.Errorf("%d: the answer to %q is %q, not %q", i, line, answers[i], s.answers[i])
			}
			word, _, _ := strings.Cut(line, " ")
			kind := answers[i]
			if strings.Trim(kind, "0123456789- ") == "" {
				kind = "numbers"
			}
			told[word+": "+kind]++
		}
		if wanted := s.registers[len(s.script)]; !same(last, wanted) {
			t.Errorf("the register is %+v, not %+v", last, wanted)
		}
	})
	for _, kind := range strings.Split(answersToSee, ", ") {
		if told[kind] < 10 {
			t.Errorf("only %d times %q", told[kind], kind)
		}
	}
}
