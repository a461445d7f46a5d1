// Package common has what several layers need: first errors, lists made of lists, ratios in lowest terms, samples and their integers, and lines and words of texts.
package common

import (
	"strconv"
	"strings"

	"moveout/api"
)

// First returns the first of some errors that is one, or OK.
func First(list ...api.Errno) api.Errno {
	for _, e := range list {
		if e != api.OK {
			return e
		}
	}
	return api.OK
}

// FirstOf returns the error of the first element that has one, or OK; it asks no element behind that one.
func FirstOf[T any](l []T, check func(T) api.Errno) api.Errno {
	for _, x := range l {
		if e := check(x); e != api.OK {
			return e
		}
	}
	return api.OK
}

// Each returns a new list with what a function makes of each element.
func Each[T, U any](l []T, f func(T) U) []U {
	out := make([]U, len(l))
	for i, x := range l {
		out[i] = f(x)
	}
	return out
}

// CheckRange returns ErrRange for a number that is not from low to high, or OK.
func CheckRange(x, low, high int) api.Errno {
	if x < low || x > high {
		return api.ErrRange
	}
	return api.OK
}

// Lowest returns a ratio in lowest terms; its denominator is above 0.
func Lowest(x api.Ratio) api.Ratio {
	a, b := max(x.Num, -x.Num), x.Den
	for a != 0 {
		a, b = b%a, a
	}
	return api.Ratio{Num: x.Num / b, Den: x.Den / b}
}

// Grains is the number of grains in 1: a sample is a whole number of grains of 1/16, and its integer is this number.
const Grains = 16

// Integer returns the integer of a number of whole grains.
func Integer(x float32) int {
	return int(Grains * x)
}

// Sample returns the number with an integer: 0, never -0.
func Sample(n int) float32 {
	return float32(n) / Grains
}

// Lines splits a string after each line feed; what follows the last one is a line if it is not empty.
func Lines(s string) []string {
	lines := strings.SplitAfter(s, "\n")
	last := len(lines) - 1
	if lines[last] == "" {
		return lines[:last]
	}
	return lines
}

// Words are the words of a line that have not been taken yet.
type Words struct {
	left []string
}

// WordsOf returns the words of a line without its line feed: what stands between two spaces, or beside one.
func WordsOf(line string) *Words {
	return &Words{left: strings.Split(line, " ")}
}

// Next takes the next word; it is empty if there is none.
func (w *Words) Next() string {
	if len(w.left) == 0 {
		return ""
	}
	word := w.left[0]
	w.left = w.left[1:]
	return word
}

// Done reports whether all words have been taken.
func (w *Words) Done() bool {
	return len(w.left) == 0
}

// Number returns the integer that a word of a text is, and whether it is one: with so many digits at most (up to 18), without leading zeros, with or without - in front, but not -0.
func Number(word string, digits int) (int, bool) {
	n, err := strconv.Atoi(word)
	// Printed again it is the word only if the word has no leading zeros, no +, and is not -0.
	if err != nil || strconv.Itoa(n) != word || len(strings.TrimPrefix(word, "-")) > digits {
		return 0, false
	}
	return n, true
}
