package net

import (
	"moveout/api"
	"moveout/common"
)

// ends are the ends of a box: the Low and the High of X, and those of Y.
type ends [4]int

func endsOf(b Box) ends {
	return ends{b.X.Low, b.X.High, b.Y.Low, b.Y.High}
}

// spot returns the ends of the box that has a point alone.
func spot(p api.Point) ends {
	return ends{p.X, p.X, p.Y, p.Y}
}

func (e ends) box() Box {
	return Box{X: api.Interval{Low: e[0], High: e[1]}, Y: api.Interval{Low: e[2], High: e[3]}}
}

// plus returns the ends of all sums of a point of both boxes.
func (e ends) plus(by ends) ends {
	for i := range e {
		e[i] += by[i]
	}
	return e
}

// times returns the ends a number of times; the number is not below 0.
func (e ends) times(n int) ends {
	for i := range e {
		e[i] *= n
	}
	return e
}

// mirrored returns the ends of the box with opposite X.
func (e ends) mirrored() ends {
	return ends{-e[1], -e[0], e[2], e[3]}
}

// opposite returns the ends of the box with opposite points.
func (e ends) opposite() ends {
	return ends{-e[1], -e[0], -e[3], -e[2]}
}

// cut returns the ends of what is in both boxes: a Low above its High if there is nothing.
func (e ends) cut(by ends) ends {
	return ends{max(e[0], by[0]), min(e[1], by[1]), max(e[2], by[2]), min(e[3], by[3])}
}

// holds reports whether a point is in a box.
func (b Box) holds(p api.Point) bool {
	return endsOf(b).cut(spot(p)) == spot(p)
}

// isEmpty reports whether a box has no points.
func (b Box) isEmpty() bool {
	return b.X.Low > b.X.High || b.Y.Low > b.Y.High
}

// corner returns the point of a box with the least X and the least Y.
func (b Box) corner() api.Point {
	return api.Point{X: b.X.Low, Y: b.Y.Low}
}

// CheckBox returns the first error of a box, or OK.
func CheckBox(b Box) api.Errno {
	return checkEnds(b, api.MaxPlace)
}

// checkEnds returns ErrRange if an end of a box is not from -most to most, ErrOrder if a Low is above its High, or OK.
func checkEnds(b Box, most int) api.Errno {
	all := endsOf(b)
	e := common.FirstOf(all[:], func(x int) api.Errno { return common.CheckRange(x, -most, most) })
	return common.First(e, common.CheckOrder(b.X), common.CheckOrder(b.Y))
}

// Squares returns the least and the greatest squared distance of two boxes.
func Squares(a, b Box) (api.Interval, api.Errno) {
	if e := common.First(CheckBox(a), CheckBox(b)); e != api.OK {
		return api.Interval{}, e
	}
	return squares(a, b), api.OK
}

func squares(a, b Box) api.Interval {
	x, y := distances(a.X, b.X), distances(a.Y, b.Y)
	return api.Interval{Low: x.Low*x.Low + y.Low*y.Low, High: x.High*x.High + y.High*y.High}
}

// distances returns the least and the greatest distance of an integer of the first interval and one of the second.
func distances(a, b api.Interval) api.Interval {
	// Where both intervals have an integer in common, neither is above 0; otherwise the one that is above 0 is the gap between them.
	gap, back := b.Low-a.High, a.Low-b.High
	return api.Interval{Low: max(0, gap, back), High: max(-gap, -back)}
}
