package filter

import (
	"iter"
	"slices"

	"moveout/api"
	"moveout/common"
)

// windows visits the indices of a list from 2 on, each with the integer at it and both before it, the last one first.
func windows(l []int) iter.Seq2[int, [3]int] {
	return func(yield func(int, [3]int) bool) {
		for n := 2; n < len(l); n++ {
			if !yield(n, [3]int{l[n], l[n-1], l[n-2]}) {
				return
			}
		}
	}
}

// Despike returns a list without spikes.
func Despike(l []float32, limit int) ([]float32, api.Errno) {
	if e := common.First(checkList(l), common.CheckRange(limit, 0, MaxLimit)); e != api.OK {
		return nil, e
	}
	return common.Samples(despiked(common.Integers(l), limit))
}

func despiked(l []int, limit int) []int {
	out := slices.Clone(l)
	for n, w := range windows(l) {
		middle := median(w)
		out[n-1] = max(middle-limit, min(w[1], middle+limit))
	}
	return out
}

func median(w [3]int) int {
	slices.Sort(w[:])
	return w[1]
}

// Gain returns a list with weights that grow with time.
func Gain(l []float32, from, den int) ([]float32, api.Errno) {
	if e := common.First(checkList(l), common.CheckRange(from, 0, MaxWeight), common.CheckRange(den, 1, MaxWeight)); e != api.OK {
		return nil, e
	}
	out := common.Integers(l)
	for n, x := range out {
		out[n] = common.Rounded(x*(n+from), den)
	}
	return common.Samples(out)
}
