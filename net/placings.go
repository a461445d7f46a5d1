package net

import (
	"cmp"
	"iter"
	"slices"

	"moveout/api"
	"moveout/common"
)

// seat is a body in the search for placings: its box, and the point where it is, both counted in steps.
type seat struct {
	Box
	at api.Point
}

// size returns the number of points in the box of a seat.
func (s seat) size() int {
	return (s.X.High - s.X.Low + 1) * (s.Y.High - s.Y.Low + 1)
}

// advance moves a body to its next point, and reports whether there was one; otherwise it is at its first point again.
func (s *seat) advance() bool {
	s.at.Y++
	if s.at.Y <= s.Y.High {
		return true
	}
	s.at.Y = s.Y.Low
	s.at.X++
	if s.at.X <= s.X.High {
		return true
	}
	s.at.X = s.X.Low
	return false
}

// seated returns the seats of all bodies on the lattice of a step, each at its first point.
func seated(n Network, step int) []seat {
	return common.Each(boxes(n), func(b Box) seat {
		inner := Box{X: inSteps(b.X, step), Y: inSteps(b.Y, step)}
		return seat{Box: inner, at: inner.corner()}
	})
}

// inSteps returns the multiples of a step in an interval, counted in steps; a Low above its High by 1 if there are none.
func inSteps(i api.Interval, step int) api.Interval {
	return api.Interval{Low: -common.Floor(-i.Low, step), High: common.Floor(i.High, step)}
}

// count returns the number of lattice placings, or MaxPlacings + 1 if there are more than MaxPlacings.
func count(seats []seat) int {
	n := 1
	for _, s := range seats {
		// A body without points makes it 0 whatever comes before and after.
		n = min(n*s.size(), MaxPlacings+1)
	}
	return n
}

// checkStep returns ErrRange if a number is no step, or OK.
func checkStep(step int) api.Errno {
	return common.CheckRange(step, 1, api.MaxPlace)
}

// checkCount returns ErrLimit if a network has too many lattice placings, or OK.
func checkCount(n Network, step int) api.Errno {
	if count(seated(n, step)) > MaxPlacings {
		return api.ErrLimit
	}
	return api.OK
}

// placings visits all lattice placings of a network.
func placings(n Network, step int) iter.Seq[[]api.Point] {
	return func(yield func([]api.Point) bool) {
		seats := seated(n, step)
		if count(seats) == 0 {
			return
		}
		point := func(s seat) api.Point { return api.Point{X: step * s.at.X, Y: step * s.at.Y} }
		for more := true; more; more = moveOn(seats) {
			if !yield(common.Each(seats, point)) {
				return
			}
		}
	}
}

// moveOn moves the bodies to the next placing, and reports whether there was one.
func moveOn(seats []seat) bool {
	for i := range seats {
		if seats[i].advance() {
			return true
		}
	}
	return false
}

// place is a point that is ordered by X, then by Y.
type place api.Point

func (p place) compare(q place) int {
	return cmp.Or(cmp.Compare(p.X, q.X), cmp.Compare(p.Y, q.Y))
}

// Places returns the places of a body by a step.
func Places(n Network, body, step int) ([]api.Point, api.Errno) {
	if e := common.First(CheckNetwork(n), common.CheckIndex(body, len(n.Bodies)), checkStep(step)); e != api.OK {
		return nil, e
	}
	if e := checkCount(n, step); e != api.OK {
		return nil, e
	}
	var l []place
	for placing := range placings(n, step) {
		if len(unkept(n, placing)) == 0 {
			l = append(l, place(placing[body]))
		}
	}
	slices.SortFunc(l, place.compare)
	return common.Each(slices.Compact(l), func(p place) api.Point { return api.Point(p) }), api.OK
}
