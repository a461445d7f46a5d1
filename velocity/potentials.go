package velocity

import (
	"slices"

	"moveout/api"
	"moveout/common"
)

// ahead returns the greatest potential of a row to which limits permit to go from a row, or 0 if there are no potentials at a next time.
func ahead(x Limits, row int, next []int) int {
	if len(next) == 0 {
		return 0
	}
	return slices.Max(reached(x, row, next))
}

// Potentials returns the least potentials.
func Potentials(p [][]int, x Limits) ([][]int, api.Errno) {
	if e := checkSearch(p, x); e != api.OK {
		return nil, e
	}
	l := common.Each(p, slices.Clone[[]int])
	var next []int
	for _, now := range slices.Backward(l) {
		for row := range now {
			now[row] += ahead(x, row, next)
		}
		next = now
	}
	return l, api.OK
}

// checkPotentials returns ErrShape if there is not a potential for each time and each row of a panel, then ErrRange if one is not in its range, or OK.
func checkPotentials(p, l [][]int) api.Errno {
	if !slices.EqualFunc(p, l, func(scores, now []int) bool { return len(scores) == len(now) }) {
		return api.ErrShape
	}
	return common.FirstOf(slices.Concat(l...), func(n int) api.Errno { return common.CheckRange(n, 0, api.MaxNumber) })
}

// CheckPotentials returns the bound that potentials prove.
func CheckPotentials(p [][]int, x Limits, l [][]int) (int, api.Errno) {
	if e := checkSearch(p, x); e != api.OK {
		return 0, e
	}
	if e := checkPotentials(p, l); e != api.OK {
		return 0, e
	}
	var next []int
	for t, now := range slices.Backward(l) {
		for row, n := range now {
			if n < p[t][row]+ahead(x, row, next) {
				return 0, api.ErrProof
			}
		}
		next = now
	}
	return slices.Max(l[0]), api.OK
}
