package trace

import (
	"moveout/api"
	"moveout/common"
)

// checkList returns the first error of a list of samples, or OK.
func checkList(l []float32) api.Errno {
	if len(l) > api.MaxSamples {
		return api.ErrMany
	}
	return common.FirstOf(l, CheckSample)
}

// checkTaps returns the first error of taps, or OK.
func checkTaps(taps []int) api.Errno {
	if e := common.CheckCount(len(taps), MaxTaps); e != api.OK {
		return e
	}
	return common.FirstOf(taps, func(tap int) api.Errno { return common.CheckRange(tap, -MaxTap, MaxTap) })
}

// Convolve returns a list of samples convolved with taps.
func Convolve(l []float32, taps []int) ([]float32, api.Errno) {
	if e := common.First(checkList(l), checkTaps(taps)); e != api.OK {
		return nil, e
	}
	if len(l) == 0 {
		return nil, api.OK
	}
	if len(l)+len(taps)-1 > api.MaxSamples {
		return nil, api.ErrMany
	}
	return common.Samples(convolved(common.Integers(l), taps))
}

// convolved returns the convolution of two lists that are not empty.
func convolved(l, taps []int) []int {
	out := make([]int, len(l)+len(taps)-1)
	for i, x := range l {
		for j, tap := range taps {
			out[i+j] += x * tap
		}
	}
	return out
}

// Correlate returns the correlation of two lists of samples.
func Correlate(a, b []float32) ([]int, api.Errno) {
	if e := common.First(checkList(a), checkList(b)); e != api.OK {
		return nil, e
	}
	if len(a) == 0 || len(b) == 0 {
		return nil, api.OK
	}
	x, y := common.Integers(a), common.Integers(b)
	out := make([]int, len(x)+len(y)-1)
	for i := range x {
		for j := range y {
			// The lag i - j stands behind the len(y) - 1 lags below 0.
			out[i-j+len(y)-1] += x[i] * y[j]
		}
	}
	return out, api.OK
}

// Energy returns the energy of a list of samples.
func Energy(l []float32) (int, api.Errno) {
	if e := checkList(l); e != api.OK {
		return 0, e
	}
	sum := 0
	for _, x := range common.Integers(l) {
		sum += x * x
	}
	return sum, api.OK
}

// Peak returns the peak of a list of samples.
func Peak(l []float32) (int, api.Errno) {
	if e := checkList(l); e != api.OK {
		return 0, e
	}
	if len(l) == 0 {
		return 0, api.ErrEmpty
	}
	at, most := 0, 0
search:
	for i, x := range common.Integers(l) {
		size := max(x, -x)
		switch {
		case size == common.MaxInteger:
			// No sample behind this one is greater.
			at = i
			break search
		case size > most:
			at, most = i, size
		}
	}
	return at, api.OK
}
