// Package common has what all layers need that no chapter specifies: first errors, lists made of lists, and lines of texts.
package common

import (
	"strconv"
	"strings"

	"moveout/api"
)

// First returns the first of some errors that is one, or OK.
func First(list ...api.Errno) api.Errno {
	for _, e := range list {
		if e != api.OK {
			return e
		}
	}
	return api.OK
}

// FirstOf returns the error of the first element that has one, or OK; it asks no element behind that one.
func FirstOf[T any](l []T, check func(T) api.Errno) api.Errno {
	for _, x := range l {
		if e := check(x); e != api.OK {
			return e
		}
	}
	return api.OK
}

// Each returns a new list with what a function makes of each element.
func Each[T, U any](l []T, f func(T) U) []U {
	out := make([]U, len(l))
	for i, x := range l {
		out[i] = f(x)
	}
	return out
}

// CheckRange returns ErrRange for a number that is not from low to high, or OK.
func CheckRange(x, low, high int) api.Errno {
	if x < low || x > high {
		return api.ErrRange
	}
	return api.OK
}

// Lines splits a string after each line feed; what follows the last one is a line if it is not empty.
func Lines(s string) []string {
	lines := strings.SplitAfter(s, "\n")
	last := len(lines) - 1
	if lines[last] == "" {
		return lines[:last]
	}
	return lines
}

// Integer returns the integer that a word of a text is, and whether it is one: with so many digits at most (up to 18), without leading zeros, with or without - in front, but not -0.
func Integer(word string, digits int) (int, bool) {
	n, err := strconv.Atoi(word)
	// Printed again it is the word only if the word has no leading zeros, no +, and is not -0.
	if err != nil || strconv.Itoa(n) != word || len(strings.TrimPrefix(word, "-")) > digits {
		return 0, false
	}
	return n, true
}
