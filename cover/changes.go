package cover

import (
	"slices"

	"moveout/api"
	"moveout/common"
)

// changed returns a copy of a line in which a function has changed something, or ErrLarge if that is no line any more.
func changed(l Line, change func(l *Line)) (Line, api.Errno) {
	out := l
	out.Refused = make([]int, len(l.Refused))
	copy(out.Refused, l.Refused)
	change(&out)
	if CheckLine(out) != api.OK {
		return Line{}, api.ErrLarge
	}
	return out, api.OK
}

// Feathered returns a line whose streamer drifts.
func Feathered(l Line, by api.Point) (Line, api.Errno) {
	if e := common.First(CheckLine(l), checkPoint(by, MaxStep)); e != api.OK {
		return Line{}, e
	}
	return changed(l, func(l *Line) { l.Spacing = after(l.Spacing, 1, by) })
}

// Shifted returns a line that is moved.
func Shifted(l Line, by api.Point) (Line, api.Errno) {
	if e := common.First(CheckLine(l), checkPoint(by, api.MaxPlace)); e != api.OK {
		return Line{}, e
	}
	return changed(l, func(l *Line) { l.Start = after(l.Start, 1, by) })
}

// Reversed returns a line whose shots come in the opposite order.
func Reversed(l Line) (Line, api.Errno) {
	if e := CheckLine(l); e != api.OK {
		return Line{}, e
	}
	return changed(l, func(l *Line) {
		last := l.Shots - 1
		l.Start = l.source(last)
		l.Step = api.Point{X: -l.Step.X, Y: -l.Step.Y}
		slices.Reverse(l.Refused)
		l.Refused = common.Each(l.Refused, func(shot int) int { return last - shot })
	})
}

// Cut returns the part of a line in a span of shots.
func Cut(l Line, s api.Span) (Line, api.Errno) {
	if e := common.First(CheckLine(l), common.CheckPart(s, l.Shots)); e != api.OK {
		return Line{}, e
	}
	return changed(l, func(l *Line) {
		l.Start = l.source(s.From)
		l.Shots = s.To - s.From
		// In the part there is no shot before the first one, and none from its number of shots on.
		moved := common.Each(l.Refused, func(shot int) int { return shot - s.From })
		l.Refused = slices.DeleteFunc(moved, func(shot int) bool { return common.CheckIndex(shot, l.Shots) != api.OK })
	})
}
