package velocity

import (
	"iter"
	"math"
	"slices"

	"moveout/api"
	"moveout/common"
	"moveout/trace"
)

// gather is a gather without an error: its traces, the squared offset of each, and the width.
type gather struct {
	traces  []trace.Trace
	offsets []int
	width   int
}

// gatherOf returns a gather with the offsets of its traces, or the first error of the shot that it is.
func gatherOf(g trace.Shot) (gather, api.Errno) {
	width, e := trace.Width(g)
	if e != api.OK {
		return gather{}, e
	}
	return gather{traces: g.Traces, offsets: offsets(g.Traces), width: width}, api.OK
}

// offsets returns the squared offset of each trace.
func offsets(l []trace.Trace) []int {
	out := make([]int, len(l))
	for i, t := range l {
		// Traces with the same header have the same places, and so the same offset.
		if i > 0 && t.Header == l[i-1].Header {
			out[i] = out[i-1]
			continue
		}
		// The samples are left out: they make no difference, and have been checked.
		out[i], _ = trace.Offset(trace.Trace{Header: t.Header})
	}
	return out
}

// root returns the root of a number from 0 on, up to 2^52.
func root(n int) int {
	// The root of a number below a square is less than that of the square by more than a float64 is rounded there.
	return int(math.Sqrt(float64(n)))
}

func moved(t, q, v int) int {
	return root(t*t + q/v)
}

// Moved returns the moved time.
func Moved(t, q, v int) (int, api.Errno) {
	if e := common.First(common.CheckRange(t, 0, api.MaxSamples), common.CheckRange(q, 0, MaxSquare), checkVelocity(v)); e != api.OK {
		return 0, e
	}
	return moved(t, q, v), api.OK
}

// live visits the live traces of a gather at a time: the index of each, and its integer at its moved time.
func (g gather) live(t, v, stretch int) iter.Seq2[int, int] {
	return func(yield func(int, int) bool) {
		for i, x := range g.traces {
			if x.Hole {
				continue
			}
			at := moved(t, g.offsets[i], v)
			if at < g.width && at <= t+stretch && !yield(i, common.Integer(x.Samples[at])) {
				return
			}
		}
	}
}

// checkTime returns ErrRange for a number that is no time below the width of a gather, or OK.
func (g gather) checkTime(t int) api.Errno {
	return common.CheckRange(t, 0, g.width-1)
}

// Live returns the live traces of a gather at a time.
func Live(g trace.Shot, t, v, stretch int) ([]int, api.Errno) {
	checked, e := gatherOf(g)
	if e := common.First(e, checked.checkTime(t), checkVelocity(v), checkStretch(stretch)); e != api.OK {
		return nil, e
	}
	var l []int
	for i := range checked.live(t, v, stretch) {
		l = append(l, i)
	}
	return l, api.OK
}

// Corrected returns the corrected gather.
func Corrected(g trace.Shot, v, stretch int) (trace.Shot, api.Errno) {
	checked, e := gatherOf(g)
	if e := common.First(e, checkVelocity(v), checkStretch(stretch)); e != api.OK {
		return trace.Shot{}, e
	}
	traces := slices.Clone(g.Traces)
	for i, t := range g.Traces {
		traces[i].Samples = make([]float32, len(t.Samples))
	}
	for t := range checked.width {
		for i, n := range checked.live(t, v, stretch) {
			traces[i].Samples[t] = common.Sample(n)
		}
	}
	return trace.Shot{Name: g.Name, Traces: traces}, api.OK
}
