package trace

import (
	"math"

	"moveout/api"
	"moveout/common"
)

// The numbers of the permutation.
const (
	drawFactor  = 742938285
	drawModulus = 2147483647
)

// maxInteger is the greatest integer of a sample.
const maxInteger = common.Grains * api.MaxValue

// IsName reports whether a string is a name.
func IsName(s string) bool {
	if len(s) < 1 || len(s) > api.MaxName {
		return false
	}
	for i, r := range s {
		if isLetter(r) {
			continue
		}
		if i == 0 || !isDigit(r) && r != '_' {
			return false
		}
	}
	return true
}

func isLetter(r rune) bool {
	return r >= 'A' && r <= 'Z' || r >= 'a' && r <= 'z'
}

func isDigit(r rune) bool {
	return r >= '0' && r <= '9'
}

// Draw returns the permutation of n elements by a key.
func Draw(key, n int) ([]int, api.Errno) {
	if e := common.First(common.CheckRange(key, 1, drawModulus-1), common.CheckRange(n, 0, api.MaxList)); e != api.OK {
		return nil, e
	}
	l := make([]int, n)
	for i := range n {
		l[i] = i
	}
	x := key
	for i := n - 1; i >= 1; i-- {
		x = drawFactor * x % drawModulus
		j := x % (i + 1)
		l[i], l[j] = l[j], l[i]
	}
	return l, api.OK
}

// CheckRatio returns the error of a ratio, or OK.
func CheckRatio(x api.Ratio) api.Errno {
	if e := common.First(common.CheckRange(x.Num, -api.MaxNumber, api.MaxNumber), common.CheckRange(x.Den, 1, api.MaxNumber)); e != api.OK {
		return e
	}
	if common.Lowest(x) != x {
		return api.ErrForm
	}
	return api.OK
}

// CheckSample returns the error of a sample, or OK.
func CheckSample(x float32) api.Errno {
	if !isFinite(x) {
		return api.ErrForm
	}
	if !isGrained(x, maxInteger) {
		return api.ErrRange
	}
	return api.OK
}

func isFinite(x float32) bool {
	return !math.IsNaN(float64(x)) && !math.IsInf(float64(x), 0)
}

// isGrained reports whether a finite number is as many whole grains as most, at most.
func isGrained(x float32, most float64) bool {
	// 16 times a float32 may be too large for a float32, but never for a float64.
	n := common.Grains * float64(x)
	return n == math.Trunc(n) && math.Abs(n) <= most
}

func integers(l []float32) []int {
	return common.Each(l, common.Integer)
}

// made returns the samples with some integers, or ErrLarge if one is the integer of no sample.
func made(l []int) ([]float32, api.Errno) {
	for _, n := range l {
		if n < -maxInteger || n > maxInteger {
			return nil, api.ErrLarge
		}
	}
	return common.Each(l, common.Sample), api.OK
}

// rounded returns a quotient, rounded: from the middle to the greater integer. The divisor is above 0.
func rounded(n, by int) int {
	return common.Floor(2*n+by, 2*by)
}
