package survey

import (
	"slices"

	"moveout/api"
	"moveout/common"
)

// stretch is a span of ticks.
type stretch api.Span

// check returns ErrSpan if a span is empty, or not from 0 on and within MaxTime, or OK.
func (x stretch) check() api.Errno {
	return common.CheckPart(api.Span(x), api.MaxTime)
}

// follows reports whether a span begins at or after the end of another one.
func (x stretch) follows(before stretch) bool {
	return x.From >= before.To
}

func (x stretch) has(tick int) bool {
	return x.From <= tick && tick < x.To
}

// stretches returns spans as stretches.
func stretches(l []api.Span) []stretch {
	return common.Each(l, func(x api.Span) stretch { return stretch(x) })
}

func checkSpans(l []api.Span) api.Errno {
	if len(l) > api.MaxList {
		return api.ErrMany
	}
	return common.CheckSuccessive(stretches(l), stretch.follows, stretch.check)
}

// isIn reports whether a tick lies in one of some spans.
func isIn(tick int, l []stretch) bool {
	return slices.ContainsFunc(l, func(x stretch) bool { return x.has(tick) })
}

// runs returns the spans, as long as they can be, of the indices of equal elements.
func runs[T comparable](l []T) []api.Span {
	var out []api.Span
	for i, x := range l {
		if i == 0 || x != l[i-1] {
			out = append(out, api.Span{From: i})
		}
		out[len(out)-1].To = i + 1
	}
	return out
}
