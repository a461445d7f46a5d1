package cover

import (
	"iter"
	"slices"

	"moveout/api"
	"moveout/common"
	"moveout/trace"
)

// numbers are the ten integers of a line, in the order in which they are checked and printed.
type numbers [10]int

// ranges are the ranges of the ten integers of a line.
var ranges = [10]api.Interval{
	{Low: -api.MaxPlace, High: api.MaxPlace},
	{Low: -api.MaxPlace, High: api.MaxPlace},
	{Low: -MaxStep, High: MaxStep},
	{Low: -MaxStep, High: MaxStep},
	{Low: 1, High: MaxShots},
	{Low: -MaxStep, High: MaxStep},
	{Low: -MaxStep, High: MaxStep},
	{Low: -MaxStep, High: MaxStep},
	{Low: -MaxStep, High: MaxStep},
	{Low: 1, High: MaxChannels},
}

func numbersOf(l Line) numbers {
	return numbers{l.Start.X, l.Start.Y, l.Step.X, l.Step.Y, l.Shots, l.Near.X, l.Near.Y, l.Spacing.X, l.Spacing.Y, l.Channels}
}

// line returns the line with a name and these integers, without refused shots.
func (n numbers) line(name string) Line {
	return Line{
		Name:     name,
		Start:    api.Point{X: n[0], Y: n[1]},
		Step:     api.Point{X: n[2], Y: n[3]},
		Shots:    n[4],
		Near:     api.Point{X: n[5], Y: n[6]},
		Spacing:  api.Point{X: n[7], Y: n[8]},
		Channels: n[9],
	}
}

// CheckLine returns the first error of a line, or OK.
func CheckLine(l Line) api.Errno {
	if !trace.IsName(l.Name) {
		return api.ErrName
	}
	for i, n := range numbersOf(l) {
		if e := common.CheckRange(n, ranges[i].Low, ranges[i].High); e != api.OK {
			return e
		}
	}
	if e := common.CheckIndices(l.Refused, l.Shots); e != api.OK {
		return e
	}
	for _, p := range l.traces() {
		if checkPlace(p) != api.OK {
			return api.ErrLarge
		}
	}
	return api.OK
}

// CheckLines returns the first error of lines, or OK.
func CheckLines(l []Line) api.Errno {
	if len(l) > MaxLines {
		return api.ErrMany
	}
	return common.FirstOf(l, rollCall())
}

// rollCall returns a function that is told lines one by one, and returns the first error of a line, ErrTwice for one with the name of a line that it was told before, or OK.
func rollCall() func(l Line) api.Errno {
	return common.RollCall(CheckLine, func(l Line) string { return l.Name })
}

// after returns the point a number of steps after another one.
func after(p api.Point, steps int, step api.Point) api.Point {
	return api.Point{X: p.X + steps*step.X, Y: p.Y + steps*step.Y}
}

// source returns the source of a shot.
func (l Line) source(shot int) api.Point {
	return after(l.Start, shot, l.Step)
}

// traces visits all shots of a line, refused or not, each with its places, channel by channel.
func (l Line) traces() iter.Seq2[int, Place] {
	return func(yield func(int, Place) bool) {
		for shot := range l.Shots {
			source := l.source(shot)
			nearest := after(source, 1, l.Near)
			for channel := range l.Channels {
				if !yield(shot, Place{Source: source, Receiver: after(nearest, channel, l.Spacing)}) {
					return
				}
			}
		}
	}
}

// places visits the places of a line.
func (l Line) places() iter.Seq[Place] {
	return func(yield func(Place) bool) {
		for shot, p := range l.traces() {
			if !slices.Contains(l.Refused, shot) && !yield(p) {
				return
			}
		}
	}
}

// Places returns the places of all accepted traces of a line.
func Places(l Line) ([]Place, api.Errno) {
	if e := CheckLine(l); e != api.OK {
		return nil, e
	}
	return slices.Collect(l.places()), api.OK
}
