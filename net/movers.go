package net

import (
	"moveout/api"
	"moveout/common"
)

// checkMover returns the error of a mover, or OK.
func checkMover(m Mover) api.Errno {
	return common.First(CheckBox(m.Box), checkEnds(Box{X: m.X, Y: m.Y}, MaxDrift))
}

func checkMovers(l []Mover) api.Errno {
	if len(l) > MaxMovers {
		return api.ErrMany
	}
	return common.FirstOf(l, checkMover)
}

func checkTicks(ticks int) api.Errno {
	return common.CheckRange(ticks, 0, MaxTicks)
}

// Drift returns the drifted box of a mover.
func Drift(m Mover, ticks int) (Box, api.Errno) {
	if e := common.First(checkMover(m), checkTicks(ticks)); e != api.OK {
		return Box{}, e
	}
	return m.drifted(ticks), api.OK
}

func (m Mover) drifted(ticks int) Box {
	drift := endsOf(Box{X: m.X, Y: m.Y})
	return endsOf(m.Box).plus(drift.times(ticks)).box()
}

// Meeting returns the first tick at which two movers are too near, and both, and whether there is one.
func Meeting(l []Mover, ticks, square int) ([3]int, bool, api.Errno) {
	if e := common.First(checkMovers(l), checkTicks(ticks), common.CheckRange(square, 0, MaxSquare)); e != api.OK {
		return [3]int{}, false, e
	}
	var found [3]int
	is := false
search:
	for tick := range ticks + 1 {
		drifted := common.Each(l, func(m Mover) Box { return m.drifted(tick) })
		for i, a := range drifted {
			for j, b := range drifted[i+1:] {
				if squares(a, b).Low < square {
					found, is = [3]int{tick, i, i + 1 + j}, true
					break search
				}
			}
		}
	}
	return found, is, api.OK
}
