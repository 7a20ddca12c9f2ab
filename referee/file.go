package referee

import (
	"strconv"
	"strings"

	"deuce/api"
)

// behindLine is how many bytes of a record stand behind its line.
const behindLine = len("|00\n")

// writable reports whether a line can be written.
func writable(line string) bool {
	if len(line) > api.MaxChars {
		return false
	}
	// Bytes above 126 make runes above 126, also if they are not valid.
	for _, c := range line {
		if c < 32 || c > 126 {
			return false
		}
	}
	return true
}

// record returns the record of a line that can be written.
func record(number int, line string) string {
	text := string(rune('a'+number%26)) + line
	sum := 0
	for _, c := range text {
		sum += int(c)
	}
	sum %= 97
	return text + "|" + strconv.Itoa(sum/10) + strconv.Itoa(sum%10) + "\n"
}

// cutRecord returns the line of the first record of a text, the text behind this record, and whether it is right: that of a line with this number.
func cutRecord(text string, number int) (line, rest string, right bool) {
	size := strings.IndexByte(text, '\n') + 1
	if size <= behindLine {
		return "", "", false
	}
	line = text[1 : size-behindLine]
	return line, text[size:], writable(line) && text[:size] == record(number, line)
}
