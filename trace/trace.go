// Package trace is layer 1 (chapter doc/01-trace.md): names, ratios, samples, shots with holes, convolution, transforms of four samples, texts and streams.
package trace

import (
	"moveout/api"
)

// Limits of headers, factors and taps.
const (
	Headers   = 8
	MaxFactor = 1024
	MaxTaps   = 16
	MaxTap    = 64
)

// Trace is samples with a header, or a hole.
type Trace struct {
	Header  [Headers]int
	Hole    bool
	Samples []float32
}

// Shot is the traces of a shot.
type Shot struct {
	Name   string
	Traces []Trace
}

// first returns the first of some errors that is one, or OK.
func first(list ...api.Errno) api.Errno {
	for _, e := range list {
		if e != api.OK {
			return e
		}
	}
	return api.OK
}

// firstOf returns the error of the first element that has one, or OK; it asks no element behind that one.
func firstOf[T any](l []T, check func(T) api.Errno) api.Errno {
	for _, x := range l {
		if e := check(x); e != api.OK {
			return e
		}
	}
	return api.OK
}

// each returns a new list with what a function makes of each element.
func each[T, U any](l []T, f func(T) U) []U {
	out := make([]U, len(l))
	for i, x := range l {
		out[i] = f(x)
	}
	return out
}

// checkRange returns ErrRange for a number that is not from low to high, or OK.
func checkRange(x, low, high int) api.Errno {
	if x < low || x > high {
		return api.ErrRange
	}
	return api.OK
}
