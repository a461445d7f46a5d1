package filter

import (
	"moveout/api"
	"moveout/common"
)

// Multiple returns the predicted multiple of a list.
func Multiple(l []float32, bottom int) ([]float32, api.Errno) {
	if e := common.First(checkList(l), checkDelay(bottom)); e != api.OK {
		return nil, e
	}
	return common.Samples(multiple(common.Integers(l), bottom))
}

func multiple(l []int, bottom int) []int {
	out := make([]int, len(l))
	for n := bottom; n < len(l); n++ {
		last := n - bottom
		sum := 0
		for j := range last + 1 {
			sum += l[j] * l[last-j]
		}
		out[n] = -common.Rounded(sum, Strength)
	}
	return out
}

// Subtract returns a list less a multiple times the factor that leaves the least energy, and this factor.
func Subtract(l, m []float32) ([]float32, api.Ratio, api.Errno) {
	if e := checkPair(l, m); e != api.OK {
		return nil, api.Ratio{}, e
	}
	list, multiple := common.Integers(l), common.Integers(m)
	energy := common.Inner(multiple, multiple)
	if energy == 0 {
		return nil, api.Ratio{}, api.ErrSingular
	}
	factor := common.Lowest(api.Ratio{Num: common.Inner(list, multiple), Den: energy})
	left := make([]int, len(list))
	for n, x := range list {
		left[n] = common.Rounded(x*factor.Den-factor.Num*multiple[n], factor.Den)
	}
	out, e := common.Samples(left)
	if e != api.OK {
		return nil, api.Ratio{}, e
	}
	return out, factor, api.OK
}

// Removed returns which share of the energy was removed.
func Removed(l, left []float32) (api.Ratio, api.Errno) {
	if e := checkPair(l, left); e != api.OK {
		return api.Ratio{}, e
	}
	list, removed := common.Integers(l), common.Integers(l)
	energy := common.Inner(list, list)
	if energy == 0 {
		return api.Ratio{}, api.ErrZero
	}
	for n, x := range common.Integers(left) {
		removed[n] -= x
	}
	return common.Lowest(api.Ratio{Num: common.Inner(removed, removed), Den: energy}), api.OK
}
