package common

import "moveout/api"

// CheckSpan returns ErrSpan if a span is not within so many elements, or OK; it may be empty.
func CheckSpan(x api.Span, elements int) api.Errno {
	if x.From < 0 || x.From > x.To || x.To > elements {
		return api.ErrSpan
	}
	return api.OK
}

// CheckPart returns ErrSpan if a span is not within so many elements, or is empty, or OK.
func CheckPart(x api.Span, elements int) api.Errno {
	if x.From == x.To {
		return api.ErrSpan
	}
	return CheckSpan(x, elements)
}
