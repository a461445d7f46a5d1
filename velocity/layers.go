package velocity

import (
	"slices"

	"moveout/api"
	"moveout/common"
)

// maxMoment is the greatest moment of layers; the least one is as far below 0.
const maxMoment = 1 << 40

// checkBounded returns the first error of picks and of bounds, or OK.
func checkBounded(l []Pick, b api.Interval) api.Errno {
	return common.First(CheckPicks(l), common.CheckInterval(b, 1, MaxVelocity))
}

// fromStart returns a list with the element of the start in front, which is the zero value: a pick with the time 0 and the moment 0, or this moment.
func fromStart[T any](l []T) []T {
	return slices.Concat(make([]T, 1), l)
}

// moments are the moments that a pick permits.
func (p Pick) moments() api.Interval {
	return api.Interval{Low: p.Time * (p.Square - p.Error), High: p.Time * (p.Square + p.Error)}
}

// growth is by how much bounds permit a moment to grow from one pick to another one.
func growth(p, q Pick, b api.Interval) api.Interval {
	time := q.Time - p.Time
	return api.Interval{Low: b.Low * time, High: b.High * time}
}

// contradict reports whether two picks, the first one before the second one, contradict each other.
func contradict(p, q Pick, b api.Interval) bool {
	from, to, by := p.moments(), q.moments(), growth(p, q, b)
	return to.Low > from.High+by.High || to.High < from.Low+by.Low
}

// Refused returns the first two picks that contradict each other, and whether there are such.
func Refused(l []Pick, b api.Interval) ([2]int, bool, api.Errno) {
	if e := checkBounded(l, b); e != api.OK {
		return [2]int{}, false, e
	}
	var pair [2]int
	found := false
	all := fromStart(l)
search:
	for i, p := range all {
		for j, q := range all[i+1:] {
			if contradict(p, q, b) {
				// The start is the pick -1.
				pair, found = [2]int{i - 1, i + j}, true
				break search
			}
		}
	}
	return pair, found, api.OK
}

// leastMoments returns the least moments that explain picks, if there are any that do.
func leastMoments(l []Pick, b api.Interval) []int {
	all := fromStart(l)
	m := make([]int, len(all))
	for i := 1; i < len(all); i++ {
		m[i] = max(all[i].moments().Low, m[i-1]+growth(all[i-1], all[i], b).Low)
	}
	// A moment that is raised so that the next one is in reach is not too near to this one, as Low is at most High.
	for i := len(all) - 2; i > 0; i-- {
		m[i] = max(m[i], m[i+1]-growth(all[i], all[i+1], b).High)
	}
	return m[1:]
}

// checkMoments returns the first error of moments, one for each pick, or OK.
func checkMoments(l []Pick, b api.Interval, m []int) api.Errno {
	all, from := fromStart(l), fromStart(m)
	for i := 1; i < len(all); i++ {
		if !common.IsIn(from[i], all[i].moments()) {
			return api.ErrConflict
		}
		if !common.IsIn(from[i]-from[i-1], growth(all[i-1], all[i], b)) {
			return api.ErrRule
		}
	}
	return api.OK
}

// Moments returns the least moments that explain picks.
func Moments(l []Pick, b api.Interval) ([]int, api.Errno) {
	if e := checkBounded(l, b); e != api.OK {
		return nil, e
	}
	m := leastMoments(l, b)
	if checkMoments(l, b, m) != api.OK {
		return nil, api.ErrInfeasible
	}
	return m, api.OK
}

// CheckMoments returns OK for moments that explain picks.
func CheckMoments(l []Pick, b api.Interval, m []int) api.Errno {
	if e := checkBounded(l, b); e != api.OK {
		return e
	}
	if len(m) != len(l) {
		return api.ErrShape
	}
	return checkMoments(l, b, m)
}

// Layers returns the squared velocities of the layers between picks.
func Layers(l []Pick, m []int) ([]api.Ratio, api.Errno) {
	if e := CheckPicks(l); e != api.OK {
		return nil, e
	}
	if len(m) != len(l) {
		return nil, api.ErrShape
	}
	if e := common.FirstOf(m, func(n int) api.Errno { return common.CheckRange(n, -maxMoment, maxMoment) }); e != api.OK {
		return nil, e
	}
	all, from := fromStart(l), fromStart(m)
	layers := make([]api.Ratio, len(l))
	for i := range layers {
		layers[i] = common.Lowest(api.Ratio{Num: from[i+1] - from[i], Den: all[i+1].Time - all[i].Time})
	}
	return layers, api.OK
}
