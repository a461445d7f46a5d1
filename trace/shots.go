package trace

import (
	"iter"
	"slices"

	"moveout/api"
	"moveout/common"
)

// tick is the index of the tick in a header.
const tick = 4

// headerRanges are the ranges of the integers of a header.
var headerRanges = [Headers]api.Interval{
	{Low: -api.MaxPlace, High: api.MaxPlace},
	{Low: -api.MaxPlace, High: api.MaxPlace},
	{Low: -api.MaxPlace, High: api.MaxPlace},
	{Low: -api.MaxPlace, High: api.MaxPlace},
	{Low: 0, High: api.MaxTime},
	{Low: -api.MaxNumber, High: api.MaxNumber},
	{Low: -api.MaxNumber, High: api.MaxNumber},
	{Low: -api.MaxNumber, High: api.MaxNumber},
}

// CheckTrace returns the first error of a trace, or OK.
func CheckTrace(t Trace) api.Errno {
	for i := range Headers {
		if e := common.CheckRange(t.Header[i], headerRanges[i].Low, headerRanges[i].High); e != api.OK {
			return e
		}
	}
	if t.Hole && len(t.Samples) > 0 {
		return api.ErrConflict
	}
	return checkList(t.Samples)
}

// CheckShot returns the first error of a shot, or OK.
func CheckShot(s Shot) api.Errno {
	if !IsName(s.Name) {
		return api.ErrName
	}
	if e := common.CheckCount(len(s.Traces), api.MaxTraces); e != api.OK {
		return e
	}
	if e := common.FirstOf(s.Traces, CheckTrace); e != api.OK {
		return e
	}
	w := width(s)
	for _, t := range whole(s) {
		if len(t.Samples) != w {
			return api.ErrShape
		}
	}
	return api.OK
}

// whole visits the traces of a shot that are no holes, with their indices.
func whole(s Shot) iter.Seq2[int, Trace] {
	return func(yield func(int, Trace) bool) {
		for i, t := range s.Traces {
			if !t.Hole && !yield(i, t) {
				return
			}
		}
	}
}

// isHollow reports whether all traces of a shot are holes.
func isHollow(s Shot) bool {
	for range whole(s) {
		return false
	}
	return true
}

func width(s Shot) int {
	for _, t := range whole(s) {
		return len(t.Samples)
	}
	return 0
}

// Width returns the width of a shot.
func Width(s Shot) (int, api.Errno) {
	if e := CheckShot(s); e != api.OK {
		return 0, e
	}
	return width(s), api.OK
}

// Holes returns the indices of the holes of a shot.
func Holes(s Shot) ([]int, api.Errno) {
	if e := CheckShot(s); e != api.OK {
		return nil, e
	}
	var l []int
	for i, t := range s.Traces {
		if t.Hole {
			l = append(l, i)
		}
	}
	return l, api.OK
}

// Offset returns the squared offset of a trace.
func Offset(t Trace) (int, api.Errno) {
	if e := CheckTrace(t); e != api.OK {
		return 0, e
	}
	h := t.Header
	return common.Squared(api.Point{X: h[0], Y: h[1]}, api.Point{X: h[2], Y: h[3]}), api.OK
}

// changed returns a copy of a shot in which each trace that is no hole has the integers that a function makes of its index and its integers; or ErrLarge if one is the integer of no sample.
func changed(s Shot, f func(i int, l []int) []int) (Shot, api.Errno) {
	traces := make([]Trace, len(s.Traces))
	copy(traces, s.Traces)
	// A hole may hold an empty part of somebody's list, which the copy must not share.
	for i := range traces {
		traces[i].Samples = nil
	}
	for i, t := range whole(s) {
		l, e := common.Samples(f(i, common.Integers(t.Samples)))
		if e != api.OK {
			return Shot{}, e
		}
		traces[i].Samples = l
	}
	return Shot{Name: s.Name, Traces: traces}, api.OK
}

// merged returns a copy of the shot a with the holes of both shots, in which each other trace has the integers that a function makes of those of both; or ErrLarge as changed. Both have as many traces.
func merged(a, b Shot, f func(x, y []int) []int) (Shot, api.Errno) {
	masked := Shot{Name: a.Name, Traces: slices.Clone(a.Traces)}
	for i, t := range b.Traces {
		if t.Hole {
			masked.Traces[i].Hole = true
		}
	}
	return changed(masked, func(i int, l []int) []int {
		return f(l, common.Integers(b.Traces[i].Samples))
	})
}

// Cut returns the part of a shot in a span.
func Cut(s Shot, x api.Span) (Shot, api.Errno) {
	if e := common.First(CheckShot(s), common.CheckSpan(x, width(s))); e != api.OK {
		return Shot{}, e
	}
	for _, t := range s.Traces {
		if t.Header[tick]+x.From > api.MaxTime {
			return Shot{}, api.ErrLarge
		}
	}
	part, e := changed(s, func(_ int, l []int) []int { return l[x.From:x.To] })
	for i := range part.Traces {
		part.Traces[i].Header[tick] += x.From
	}
	return part, e
}

// Join returns two shots joined.
func Join(a, b Shot) (Shot, api.Errno) {
	if e := common.First(CheckShot(a), CheckShot(b), checkFollows(a, b)); e != api.OK {
		return Shot{}, e
	}
	return merged(a, b, func(x, y []int) []int { return slices.Concat(x, y) })
}

// checkFollows returns the error with which the shot b does not follow the shot a, or OK.
func checkFollows(a, b Shot) api.Errno {
	if len(a.Traces) != len(b.Traces) {
		return api.ErrShape
	}
	w := width(a)
	for i, t := range a.Traces {
		later := t.Header
		later[tick] += w
		if later != b.Traces[i].Header {
			return api.ErrConflict
		}
	}
	for i, t := range whole(a) {
		u := b.Traces[i]
		if !u.Hole && len(t.Samples)+len(u.Samples) > api.MaxSamples {
			return api.ErrMany
		}
	}
	return api.OK
}
