package trace

import (
	"moveout/api"
	"moveout/common"
)

// Sum returns the sum of two shots.
func Sum(a, b Shot) (Shot, api.Errno) {
	if e := common.First(CheckShot(a), CheckShot(b), checkAlike(a, b)); e != api.OK {
		return Shot{}, e
	}
	return merged(a, b, func(x, y []int) []int {
		for i := range x {
			x[i] += y[i]
		}
		return x
	})
}

// checkAlike returns the error with which two shots have no sum, or OK.
func checkAlike(a, b Shot) api.Errno {
	if len(a.Traces) != len(b.Traces) {
		return api.ErrShape
	}
	// A shot of holes alone has no width of its own, and fits every other one.
	if !isHollow(a) && !isHollow(b) && width(a) != width(b) {
		return api.ErrShape
	}
	for i, t := range a.Traces {
		if t.Header != b.Traces[i].Header {
			return api.ErrConflict
		}
	}
	return api.OK
}

// Scaled returns a shot scaled by a quotient.
func Scaled(s Shot, num, den int) (Shot, api.Errno) {
	if e := common.First(CheckShot(s), common.CheckRange(num, -MaxFactor, MaxFactor), common.CheckRange(den, 1, MaxFactor)); e != api.OK {
		return Shot{}, e
	}
	return changed(s, func(_ int, l []int) []int {
		return common.Each(l, func(x int) int { return common.Rounded(num*x, den) })
	})
}

// Delayed returns a shot delayed by some samples.
func Delayed(s Shot, n int) (Shot, api.Errno) {
	if e := common.First(CheckShot(s), common.CheckRange(n, -api.MaxSamples, api.MaxSamples)); e != api.OK {
		return Shot{}, e
	}
	return changed(s, func(_ int, l []int) []int { return common.Delayed(l, n) })
}

// Stack returns the stack of a shot.
func Stack(s Shot) ([]float32, api.Errno) {
	if e := CheckShot(s); e != api.OK {
		return nil, e
	}
	sums := make([]int, width(s))
	count := 0
	for _, t := range whole(s) {
		count++
		for i, x := range t.Samples {
			sums[i] += common.Integer(x)
		}
	}
	if count == 0 {
		return nil, api.ErrNone
	}
	return common.Samples(common.Each(sums, func(x int) int { return common.Rounded(x, count) }))
}
