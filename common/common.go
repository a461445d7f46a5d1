// Package common has what several layers need: first errors, lists made of lists, quotients and ratios in lowest terms, intervals, spans, cells of grids, samples and their integers, transforms of four, squared distances, inner products, checksums, and texts that are read line by line.
package common

import (
	"cmp"

	"moveout/api"
)

// First returns the first of some errors that is one, or OK.
func First(list ...api.Errno) api.Errno {
	for _, e := range list {
		if e != api.OK {
			return e
		}
	}
	return api.OK
}

// FirstOf returns the error of the first element that has one, or OK; it asks no element behind that one.
func FirstOf[T any](l []T, check func(T) api.Errno) api.Errno {
	for _, x := range l {
		if e := check(x); e != api.OK {
			return e
		}
	}
	return api.OK
}

// Each returns a new list with what a function makes of each element.
func Each[T, U any](l []T, f func(T) U) []U {
	out := make([]U, len(l))
	for i, x := range l {
		out[i] = f(x)
	}
	return out
}

// CheckRange returns ErrRange for a number that is not from low to high, or OK.
func CheckRange(x, low, high int) api.Errno {
	if x < low || x > high {
		return api.ErrRange
	}
	return api.OK
}

// CheckCount returns ErrEmpty if there are no elements, ErrMany if there are more than so many, or OK.
func CheckCount(elements, most int) api.Errno {
	switch {
	case elements == 0:
		return api.ErrEmpty
	case elements > most:
		return api.ErrMany
	}
	return api.OK
}

// CheckIndex returns ErrUnknown if a number is not the index of one of so many elements, or OK.
func CheckIndex(i, elements int) api.Errno {
	if i < 0 || i >= elements {
		return api.ErrUnknown
	}
	return api.OK
}

// CheckIndices returns the first error of indices of so many elements, each above the one before it, or OK.
func CheckIndices(l []int, elements int) api.Errno {
	return CheckAscending(l, cmp.Compare[int], func(i int) api.Errno { return CheckIndex(i, elements) })
}

// CheckAscending returns, for the first element with an error, the one that a function gives it, or ErrOrder if it is not above the element before it; or OK. The first function compares two elements.
func CheckAscending[T any](l []T, compare func(a, b T) int, check func(T) api.Errno) api.Errno {
	return CheckSuccessive(l, func(x, before T) bool { return compare(x, before) > 0 }, check)
}

// CheckSuccessive returns, for the first element with an error, the one that a function gives it, or ErrOrder if it does not follow the element before it; or OK. The first function reports whether an element may follow another one.
func CheckSuccessive[T any](l []T, follows func(x, before T) bool, check func(T) api.Errno) api.Errno {
	for i, x := range l {
		if e := check(x); e != api.OK {
			return e
		}
		if i > 0 && !follows(x, l[i-1]) {
			return api.ErrOrder
		}
	}
	return api.OK
}

// RollCall returns a function that is told elements one by one, and returns the error that another function gives an element, ErrTwice for one with the name of an element that it was told before, or OK.
func RollCall[T any](check func(T) api.Errno, name func(T) string) func(T) api.Errno {
	told := map[string]bool{}
	return func(x T) api.Errno {
		if e := check(x); e != api.OK {
			return e
		}
		if told[name(x)] {
			return api.ErrTwice
		}
		told[name(x)] = true
		return api.OK
	}
}

// Subset returns the elements whose bits are set, in their order: the last element has the lowest bit.
func Subset[T any](l []T, set int) []T {
	var out []T
	for i, x := range l {
		if set>>(len(l)-1-i)&1 == 1 {
			out = append(out, x)
		}
	}
	return out
}

// Floor returns the greatest integer that is not above a quotient; the divisor is above 0.
func Floor(n, by int) int {
	q := n / by
	// Go cuts a quotient towards 0, but the floor is asked for.
	if n%by < 0 {
		q--
	}
	return q
}

// Rounded returns a quotient, rounded: from the middle to the greater integer. The divisor is above 0.
func Rounded(n, by int) int {
	return Floor(2*n+by, 2*by)
}

// Squared returns the squared distance of two points.
func Squared(a, b api.Point) int {
	x, y := b.X-a.X, b.Y-a.Y
	return x*x + y*y
}

// Inner returns the inner product of two lists of the same length.
func Inner(a, b []int) int {
	sum := 0
	for i, x := range a {
		sum += x * b[i]
	}
	return sum
}

// Checksum returns 1, replaced for each element in turn by a factor times itself, plus the element, modulo a modulus.
func Checksum[T byte | int](l []T, factor, modulus int) int {
	sum := 1
	for _, x := range l {
		sum = (factor*sum + int(x)) % modulus
	}
	return sum
}

// Lowest returns a ratio in lowest terms; its denominator is above 0.
func Lowest(x api.Ratio) api.Ratio {
	d := Divisor(x.Num, x.Den)
	return api.Ratio{Num: x.Num / d, Den: x.Den / d}
}

// Divisor returns the greatest integer that divides all of some integers; of zeros alone it is 0.
func Divisor(l ...int) int {
	d := 0
	for _, n := range l {
		rest := max(n, -n)
		for rest != 0 {
			d, rest = rest, d%rest
		}
	}
	return d
}
