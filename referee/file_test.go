package referee_test

import (
	"fmt"
	"math/rand/v2"
	"slices"
	"strings"
	"testing"

	"deuce/api"
	"deuce/referee"
)

// recordBy is the chapter's words about the record of a line.
func recordBy(number int, line string) string {
	letter := "abcdefghijklmnopqrstuvwxyz"[number%26]
	sum := int(letter)
	for i := range len(line) {
		sum += int(line[i])
	}
	return fmt.Sprintf("%c%s|%02d\n", letter, line, sum%97)
}

// fileBy is the chapter's words about the file of a script.
func fileBy(script []string) string {
	out := ""
	for number, line := range script {
		out += recordBy(number, line)
	}
	return out
}

// randomText returns a line that can be written.
func randomText(r *rand.Rand) string {
	var out []byte
	for range r.IntN(1 + r.IntN(api.MaxChars+1)) {
		out = append(out, one(r, byte(32+r.IntN(95)), byte(32+r.IntN(95)), '|', '0', ' ', '~'))
	}
	return string(out)
}

// randomTexts returns up to so many lines that can be written.
func randomTexts(r *rand.Rand, lines int) []string {
	var out []string
	for range r.IntN(lines + 1) {
		out = append(out, randomText(r))
	}
	return out
}

// written returns the file of a script that can be written.
func written(t *testing.T, script []string) string {
	t.Helper()
	text, e := referee.Write(script)
	if e != api.OK {
		t.Fatalf("Write of %q: %d", script, e)
	}
	return text
}

// read returns the script of a file.
func read(t *testing.T, text string) []string {
	t.Helper()
	script, at, e := referee.Read(text)
	if e != api.OK || at != 0 {
		t.Fatalf("Read of %q = %q, %d, %d", text, script, at, e)
	}
	return script
}

// wrongAt checks that a text is no file, from a record on.
func wrongAt(t *testing.T, text string, at int) {
	t.Helper()
	script, record, e := referee.Read(text)
	if len(script) > 0 || record != at || e != api.ErrText {
		t.Errorf("Read of %q = %q, %d, %d instead of %d", text, script, record, e, at)
	}
}

// P12.3: TestWrite: the file has a record for each line.
func TestWrite(t *testing.T) {
	for _, x := range []struct {
		script []string
		wanted string
	}{
		{nil, ""}, {[]string{"main"}, "amain|33\n"}, {[]string{""}, "a|00\n"}, {[]string{"", "~ "}, "a|00\nb~ |62\n"}, {[]string{"|00", "||||", "a|00"}, "a|00|26\nb|||||12\nca|00|28\n"},
		{make([]string, 28), fileBy(make([]string, 28))}, {slices.Repeat([]string{strings.Repeat("~", 30)}, 80), fileBy(slices.Repeat([]string{strings.Repeat("~", 30)}, 80))},
	} {
		if text := written(t, x.script); text != x.wanted {
			t.Errorf("Write of %q = %q, not %q", x.script, text, x.wanted)
		}
	}
	if text := written(t, make([]string, 80)); !strings.HasPrefix(text[130:], "a|00\nb|01\n") || !strings.HasSuffix(text, "z|25\na|00\nb|01\n") || len(text) != 400 {
		t.Errorf("Write of 80 empty lines = %q", text)
	}
	for seed := range uint64(300) {
		r := random(seed)
		script := randomTexts(r, api.MaxScript)
		if text := written(t, script); text != fileBy(script) {
			t.Errorf("Write of %q = %q", script, text)
		}
	}
}

// P12.3: TestNotWritten: lines are not too many, and can be written.
func TestNotWritten(t *testing.T) {
	refused := func(script []string, wanted api.Errno) {
		t.Helper()
		if text, e := referee.Write(script); text != "" || e != wanted {
			t.Errorf("Write of %q = %q, %d", script, text, e)
		}
	}
	for c := range 256 {
		for _, line := range []string{string([]byte{byte(c)}), "x" + string([]byte{byte(c)}), string([]byte{byte(c)}) + "x"} {
			if c >= 32 && c <= 126 {
				if text := written(t, []string{line}); text != recordBy(0, line) {
					t.Errorf("Write of %q = %q", line, text)
				}
				continue
			}
			refused([]string{line}, api.ErrScript)
			refused([]string{"main", line, "main"}, api.ErrScript)
			refused(append(make([]string, 79), line), api.ErrScript)
			refused(append(make([]string, 80), line), api.ErrMany)
		}
	}
	for _, line := range []string{strings.Repeat("x", 31), strings.Repeat(" ", 1<<20), "é", strings.Repeat("é", 15), "\u007f", "\u0080", "￿", "\xc3", "x\xff"} {
		refused([]string{line}, api.ErrScript)
		refused(append(make([]string, 79), line), api.ErrScript)
	}
	refused(make([]string, 81), api.ErrMany)
	refused(slices.Repeat([]string{"\n"}, 81), api.ErrMany)
}

// P12.4, P12.8: TestRead: a script that can be written is read from its file, and what is read is not changed.
func TestRead(t *testing.T) {
	for seed := range uint64(400) {
		r := random(seed)
		script := randomTexts(r, one(r, 3, api.MaxScript))
		before := slices.Clone(script)
		if got := read(t, written(t, script)); !slices.Equal(got, script) || !slices.Equal(script, before) {
			t.Errorf("Read of %q = %q", script, got)
		}
	}
	if script := read(t, ""); len(script) > 0 {
		t.Errorf("Read of nothing = %q", script)
	}
}

// P12.4: TestWrong: the first record that is not right.
func TestWrong(t *testing.T) {
	long := fileBy(make([]string, 80))
	for _, x := range []struct {
		text string
		at   int
	}{
		{"a", 0}, {"\n", 0}, {"\n\n\n\n\n\n", 0}, {"a\n", 0}, {"|\n", 0}, {"|00\n", 0}, {"a00\n", 0}, {"a|0\n", 0}, {"a|00", 0}, {"a|00\r\n", 0}, {"a|00\r", 0}, {"a|000\n", 0}, {"a|97\n", 0}, {"a|01\n", 0}, {"b|01\n", 0}, {"A|65\n", 0}, {"a |32", 0}, {"a |33\n", 0}, {"a:00\n", 0}, {" a|00\n", 0},
		{"amain|33", 0}, {"amain|34\n", 0}, {"bmain|34\n", 0}, {"amain|33\n\n", 1}, {"amain|33\n ", 1}, {"amain|33\namain|33\n", 1}, {"amain|33\nbmain|34\nc", 2}, {"amain|33\nbmain|34\nc|02", 2}, {"amain|33\nbmain|34\nc|03\nd|03\n", 2}, {"amain|33\nc|02\nb|01", 1},
		{recordBy(0, strings.Repeat("x", 31)), 0}, {recordBy(0, "x") + recordBy(1, strings.Repeat("x", 31)), 1}, {recordBy(0, strings.Repeat("x", 1<<20)), 0}, {recordBy(0, "\x7f"), 0}, {recordBy(0, "\x1f"), 0}, {recordBy(0, "\xff"), 0}, {recordBy(0, "é"), 0}, {recordBy(0, "\n"), 0}, {recordBy(0, "") + recordBy(1, "é"), 1}, {recordBy(1, ""), 0}, {recordBy(26, "") + recordBy(26, ""), 1},
		{long + "c", 80}, {long + "\n", 80}, {long + recordBy(80, ""), 80}, {long + recordBy(80, "") + recordBy(81, ""), 80}, {long[:len(long)-1], 79}, {long[1:], 0}, {long[:395] + long[390:395] + long[395:], 79}, {long + long, 80}, {strings.Repeat("a|00\n", 1<<18), 1}, {strings.Repeat("x", 1<<20), 0},
	} {
		wrongAt(t, x.text, x.at)
	}
}

// P12.4: TestCut: a file that is cut within a record lacks this one; cut behind a record it is that of fewer lines.
func TestCut(t *testing.T) {
	for seed := range uint64(60) {
		script := randomTexts(random(seed), 12)
		text := written(t, script)
		for size := range text {
			lines := strings.Count(text[:size], "\n")
			if size == 0 || text[size-1] == '\n' {
				if got := read(t, text[:size]); !slices.Equal(got, script[:lines]) {
					t.Errorf("Read of %q = %q", text[:size], got)
				}
				continue
			}
			wrongAt(t, text[:size], lines)
		}
	}
}

// P12.8: TestOneByte: if one byte that is no line feed is another one that is none, the record that it is in is named.
func TestOneByte(t *testing.T) {
	for seed := range uint64(60) {
		r := random(seed)
		text := written(t, randomTexts(r, one(r, 4, api.MaxScript)))
		for range 2000 {
			if text == "" {
				break
			}
			at, other := r.IntN(len(text)), byte(one(r, r.IntN(256), '0'+r.IntN(10)))
			if text[at] == '\n' || other == '\n' || other == text[at] {
				continue
			}
			wrongAt(t, text[:at]+string([]byte{other})+text[at+1:], strings.Count(text[:at], "\n"))
		}
	}
}

// P12.8: TestAccepted: a text that Read accepts is the file of its script, and Read names the first record of any other text that is not right.
func TestAccepted(t *testing.T) {
	accepted, refused := 0, 0
	for seed := range uint64(20000) {
		r := random(seed)
		text := []byte(fileBy(randomTexts(r, 4)))
		for range r.IntN(3) {
			at := r.IntN(len(text) + 1)
			switch r.IntN(3) {
			case 0:
				text = slices.Insert(text, at, one(r, '\n', '|', '0', byte(r.IntN(256))))
			case 1:
				text = slices.Delete(text, min(at, len(text)), min(at+1, len(text)))
			default:
				text = append(text, text[at:]...)
			}
		}
		script, at, e := referee.Read(string(text))
		if e == api.OK {
			accepted++
			if written(t, script) != string(text) || at != 0 {
				t.Fatalf("Read of %q = %q, %d", text, script, at)
			}
			continue
		}
		refused++
		right := strings.SplitAfter(string(text), "\n")
		if len(script) > 0 || e != api.ErrText || at >= len(right) || right[at] == "" || isRecord(at, right[at]) {
			t.Fatalf("Read of %q = %q, %d, %d", text, script, at, e)
		}
		for number, text := range right[:at] {
			if !isRecord(number, text) {
				t.Fatalf("Read of %q = %d", right, at)
			}
		}
	}
	if accepted < 3000 || refused < 3000 {
		t.Errorf("only %d are accepted, %d refused", accepted, refused)
	}
}

// isRecord reports whether a text is the record of a line that can be written, with a number.
func isRecord(number int, text string) bool {
	if len(text) < 5 || len(text) > 35 {
		return false
	}
	line := text[1 : len(text)-4]
	plain := func(c rune) bool { return c >= 32 && c <= 126 }
	return strings.IndexFunc(line, func(c rune) bool { return !plain(c) }) == -1 && recordBy(number, line) == text
}
