package common

import (
	"math"

	"moveout/api"
)

// Grains is the number of grains in 1: a sample is a whole number of grains of 1/16, and its integer is this number.
const Grains = 16

// MaxInteger is the greatest integer of a sample.
const MaxInteger = Grains * api.MaxValue

// Integer returns the integer of a number of whole grains.
func Integer(x float32) int {
	return int(Grains * x)
}

// Sample returns the number with an integer: 0, never -0.
func Sample(n int) float32 {
	return float32(n) / Grains
}

// Integers returns the integers of samples.
func Integers(l []float32) []int {
	return Each(l, Integer)
}

// Samples returns the samples with some integers, or ErrLarge if one is the integer of no sample.
func Samples(l []int) ([]float32, api.Errno) {
	for _, n := range l {
		if n < -MaxInteger || n > MaxInteger {
			return nil, api.ErrLarge
		}
	}
	return Each(l, Sample), api.OK
}

// CheckGrains returns ErrForm if a number is NaN or infinite, then ErrRange if it is not a whole number of grains from -most to most, or OK.
func CheckGrains(x float32, most int) api.Errno {
	if !isFinite(x) {
		return api.ErrForm
	}
	// 16 times a float32 may be too large for a float32, but never for a float64.
	n := Grains * float64(x)
	if n != math.Trunc(n) || math.Abs(n) > float64(most) {
		return api.ErrRange
	}
	return api.OK
}

func isFinite(x float32) bool {
	return !math.IsNaN(float64(x)) && !math.IsInf(float64(x), 0)
}

// Delayed returns as many integers as a list has: at each index i that at i - n, or 0 if there is none.
func Delayed(l []int, n int) []int {
	out := make([]int, len(l))
	for i := range l {
		if from := i - n; from >= 0 && from < len(l) {
			out[i] = l[from]
		}
	}
	return out
}
