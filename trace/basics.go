package trace

import (
	"moveout/api"
	"moveout/common"
)

// The numbers of the permutation.
const (
	drawFactor  = 742938285
	drawModulus = 2147483647
)

// IsName reports whether a string is a name.
func IsName(s string) bool {
	if len(s) < 1 || len(s) > api.MaxName {
		return false
	}
	for i, r := range s {
		if isLetter(r) {
			continue
		}
		if i == 0 || !isDigit(r) && r != '_' {
			return false
		}
	}
	return true
}

func isLetter(r rune) bool {
	return r >= 'A' && r <= 'Z' || r >= 'a' && r <= 'z'
}

func isDigit(r rune) bool {
	return r >= '0' && r <= '9'
}

// Draw returns the permutation of n elements by a key.
func Draw(key, n int) ([]int, api.Errno) {
	if e := common.First(common.CheckRange(key, 1, drawModulus-1), common.CheckRange(n, 0, api.MaxList)); e != api.OK {
		return nil, e
	}
	l := make([]int, n)
	for i := range n {
		l[i] = i
	}
	x := key
	for i := n - 1; i >= 1; i-- {
		x = drawFactor * x % drawModulus
		j := x % (i + 1)
		l[i], l[j] = l[j], l[i]
	}
	return l, api.OK
}

// CheckRatio returns the error of a ratio, or OK.
func CheckRatio(x api.Ratio) api.Errno {
	if e := common.First(common.CheckRange(x.Num, -api.MaxNumber, api.MaxNumber), common.CheckRange(x.Den, 1, api.MaxNumber)); e != api.OK {
		return e
	}
	if common.Lowest(x) != x {
		return api.ErrForm
	}
	return api.OK
}

// CheckSample returns the error of a sample, or OK.
func CheckSample(x float32) api.Errno {
	return common.CheckGrains(x, common.MaxInteger)
}
