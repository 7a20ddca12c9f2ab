package referee

import (
	"strconv"
	"strings"
)

// Answers that are words; others are numbers.
const (
	yes     = "ok"
	no      = "no"
	full    = "full"
	nothing = "none"
	never   = "never"
	unknown = "?"
)

// maxDigits is the most digits of a number, maxNumbers the most numbers of a line.
const maxDigits, maxNumbers = 6, 4

// command is a line with a certain first word: how many numbers follow it, and what the answer to them is.
type command struct {
	numbers int
	answer  func(numbers []int) string
}

// answer returns the answer to a line.
func answer(commands map[string]command, line string) string {
	// A line with more words than any command has is cut no further.
	words := strings.SplitN(line, " ", maxNumbers+2)
	c, known := commands[words[0]]
	if !known || len(words)-1 != c.numbers {
		return unknown
	}
	var numbers []int
	for _, word := range words[1:] {
		n, is := numberOf(word)
		if !is {
			return unknown
		}
		numbers = append(numbers, n)
	}
	return c.answer(numbers)
}

// numberOf returns the number that a word is, and whether it is one.
func numberOf(word string) (n int, is bool) {
	if word == "" || len(word) > maxDigits || word[0] == '0' && word != "0" {
		return 0, false
	}
	for _, c := range word {
		if c < '0' || c > '9' {
			return 0, false
		}
		n = 10*n + int(c-'0')
	}
	return n, true
}

// list returns the answer that some numbers are.
func list(numbers []int) string {
	if len(numbers) == 0 {
		return nothing
	}
	var words []string
	for _, n := range numbers {
		words = append(words, strconv.Itoa(n))
	}
	return strings.Join(words, " ")
}
