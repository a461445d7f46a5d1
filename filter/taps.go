package filter

import (
	"slices"

	"moveout/api"
	"moveout/common"
	"moveout/trace"
)

// CheckTaps returns the first error of taps, or OK.
func CheckTaps(taps []int) api.Errno {
	if e := common.CheckCount(len(taps), MaxTaps); e != api.OK {
		return e
	}
	if e := common.FirstOf(taps, func(tap int) api.Errno { return common.CheckRange(tap, -MaxTap, MaxTap) }); e != api.OK {
		return e
	}
	if taps[0] == 0 {
		return api.ErrZero
	}
	return api.OK
}

// checkList returns the first error of a list of samples, or OK.
func checkList(l []float32) api.Errno {
	// Without anything in its header, a trace has the errors of its samples alone.
	return trace.CheckTrace(trace.Trace{Samples: l})
}

// checkPair returns the first error of two lists of the same length, or OK.
func checkPair(a, b []float32) api.Errno {
	if e := common.First(checkList(a), checkList(b)); e != api.OK {
		return e
	}
	if len(a) != len(b) {
		return api.ErrShape
	}
	return api.OK
}

// applied returns a list to which taps were applied.
func applied(taps, l []int) []int {
	out := make([]int, len(l))
	for n := range l {
		for k := range min(len(taps), n+1) {
			out[n] += taps[k] * l[n-k]
		}
	}
	return out
}

// undone returns the list to which taps have to be applied to give a list; the first tap is 1 or -1.
func undone(taps, l []int) []int {
	// Behind an integer of no sample others may wrap around, but that one is exact, and is found.
	out := slices.Clone(l)
	for n := range out {
		for k := range min(len(taps)-1, n) {
			out[n] -= taps[k+1] * out[n-k-1]
		}
		out[n] *= taps[0]
	}
	return out
}

// Apply returns a list to which taps were applied.
func Apply(taps []int, l []float32) ([]float32, api.Errno) {
	if e := common.First(CheckTaps(taps), checkList(l)); e != api.OK {
		return nil, e
	}
	return common.Samples(applied(taps, common.Integers(l)))
}

// Undo returns the list to which taps were applied.
func Undo(taps []int, l []float32) ([]float32, api.Errno) {
	if e := common.First(CheckTaps(taps), checkList(l)); e != api.OK {
		return nil, e
	}
	if taps[0] != 1 && taps[0] != -1 {
		return nil, api.ErrRule
	}
	return common.Samples(undone(taps, common.Integers(l)))
}

// Adjoint returns a list to which the adjoint of taps was applied.
func Adjoint(taps []int, l []float32) ([]float32, api.Errno) {
	if e := common.First(CheckTaps(taps), checkList(l)); e != api.OK {
		return nil, e
	}
	// The adjoint is what the taps are from the end of a list on.
	backwards := common.Integers(l)
	slices.Reverse(backwards)
	out := applied(taps, backwards)
	slices.Reverse(out)
	return common.Samples(out)
}

// Inner returns the inner product of two lists.
func Inner(a, b []float32) (int, api.Errno) {
	if e := checkPair(a, b); e != api.OK {
		return 0, e
	}
	return common.Inner(common.Integers(a), common.Integers(b)), api.OK
}

// Response returns the responses of taps.
func Response(taps []int) ([4]complex128, api.Errno) {
	if e := CheckTaps(taps); e != api.OK {
		return [4]complex128{}, e
	}
	// The powers of -i come again after four, so that taps that are four apart count together.
	var folded [4]api.Gauss
	for j, tap := range taps {
		folded[j%4].Re += tap
	}
	var out [4]complex128
	for k, x := range common.Turned(folded, common.MinusI) {
		out[k] = complex(float64(x.Re), float64(x.Im))
	}
	return out, api.OK
}
