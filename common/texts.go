package common

import (
	"strconv"
	"strings"

	"moveout/api"
)

// Lines splits a string after each line feed; what follows the last one is a line if it is not empty.
func Lines(s string) []string {
	lines := strings.SplitAfter(s, "\n")
	last := len(lines) - 1
	if lines[last] == "" {
		return lines[:last]
	}
	return lines
}

// Words are the words of a line that have not been taken yet.
type Words struct {
	left []string
}

// WordsOf returns the words of a line without its line feed: what stands between two spaces, or beside one.
func WordsOf(line string) *Words {
	return &Words{left: strings.Split(line, " ")}
}

// Next takes the next word; it is empty if there is none.
func (w *Words) Next() string {
	if len(w.left) == 0 {
		return ""
	}
	word := w.left[0]
	w.left = w.left[1:]
	return word
}

// Done reports whether all words have been taken.
func (w *Words) Done() bool {
	return len(w.left) == 0
}

// Number returns the integer that a word of a text is, and whether it is one: with so many digits at most (up to 18), without leading zeros, with or without - in front, but not -0.
func Number(word string, digits int) (int, bool) {
	n, err := strconv.Atoi(word)
	// Printed again it is the word only if the word has no leading zeros, no +, and is not -0.
	if err != nil || strconv.Itoa(n) != word || len(strings.TrimPrefix(word, "-")) > digits {
		return 0, false
	}
	return n, true
}

// Digits returns the integer that a word of digits alone is, and whether it is one: with so many digits at most (up to 18), without leading zeros.
func Digits(word string, most int) (int, bool) {
	if word == "" || len(word) > most || len(word) > 1 && word[0] == '0' {
		return 0, false
	}
	n := 0
	for _, r := range word {
		if r < '0' || r > '9' {
			return 0, false
		}
		n = 10*n + int(r-'0')
	}
	return n, true
}

// ReadNumbers fills a list with words that are taken, and reports whether all of them are integers of a text, as Number has them.
func ReadNumbers(next func() string, l []int, digits int) bool {
	for i := range l {
		n, ok := Number(next(), digits)
		if !ok {
			return false
		}
		l[i] = n
	}
	return true
}

// JoinNumbers returns integers, with a blank between two of them.
func JoinNumbers(l []int) string {
	return strings.Join(Each(l, strconv.Itoa), " ")
}

// PrintNumbers returns the end of a line: integers, with a blank between two of them, and the line feed.
func PrintNumbers(l []int) string {
	return JoinNumbers(l) + "\n"
}

// ReadText has a function take the words of each line of a string of at most so many bytes, and then another one check what came of them. It returns the first error with its index: ErrLong with 0; ErrSyntax with the index of the first line that has no line feed at its end, that the first function refuses, or of which it leaves words; or that of the check with the number of lines. Without an error the index is 0.
func ReadText(s string, most int, read func(next func() string) bool, check func() api.Errno) (int, api.Errno) {
	if len(s) > most {
		return 0, api.ErrLong
	}
	lines := Lines(s)
	for i, line := range lines {
		text, ended := strings.CutSuffix(line, "\n")
		words := WordsOf(text)
		if !ended || !read(words.Next) || !words.Done() {
			return i, api.ErrSyntax
		}
	}
	if e := check(); e != api.OK {
		return len(lines), e
	}
	return 0, api.OK
}
