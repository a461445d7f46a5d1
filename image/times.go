package image

import (
	"cmp"
	"slices"

	"moveout/api"
	"moveout/common"
)

// unknown is the time to a cell as long as it is not known.
const unknown = -1

// reach is a cell, and the time of a way to it.
type reach struct {
	cell int
	time int
}

// compare compares two cells that wait: the one that is visited first is less.
func (r reach) compare(s reach) int {
	return cmp.Or(cmp.Compare(r.time, s.time), cmp.Compare(r.cell, s.cell))
}

// queued returns cells that wait, in their order, with one more.
func queued(waiting []reach, r reach) []reach {
	at, _ := slices.BinarySearchFunc(waiting, r, reach.compare)
	return slices.Insert(waiting, at, r)
}

// times returns the times from a cell to all cells.
func (g Ground) times(source int) []int {
	times := slices.Repeat([]int{unknown}, g.cells())
	waiting := []reach{{cell: source}}
	for len(waiting) > 0 {
		first := waiting[0]
		waiting = waiting[1:]
		if times[first.cell] != unknown {
			continue
		}
		// All other ways to the cell lead through a cell that is not reached earlier.
		times[first.cell] = first.time
		for next, cost := range g.neighbours(first.cell) {
			if times[next] == unknown {
				waiting = queued(waiting, reach{cell: next, time: first.time + cost})
			}
		}
	}
	return times
}

// Times returns the times from a cell to all cells.
func Times(g Ground, source int) ([]int, api.Errno) {
	if e := common.First(CheckGround(g), g.checkCell(source)); e != api.OK {
		return nil, e
	}
	return g.times(source), api.OK
}

// Path returns the best way between two cells, and its time.
func Path(g Ground, source, target int) ([]int, int, api.Errno) {
	if e := checkEnds(g, source, target); e != api.OK {
		return nil, 0, e
	}
	// Times are the same in both directions.
	left := g.times(target)
	return g.best(source, left), left[source], api.OK
}

// best returns the best way from a cell to the one that is the target; left has for each cell the time from it to the target.
func (g Ground) best(at int, left []int) []int {
	way := []int{at}
search:
	for left[at] > 0 {
		// The neighbours come in ascending order: the first one on a way with the time is on the first such way.
		for next, cost := range g.neighbours(at) {
			if cost+left[next] == left[at] {
				way, at = append(way, next), next
				continue search
			}
		}
	}
	return way
}

// CheckPath returns the time of a way.
func CheckPath(g Ground, way []int) (int, api.Errno) {
	if e := common.First(CheckGround(g), common.CheckCount(len(way), api.MaxList)); e != api.OK {
		return 0, e
	}
	time := 0
	for i, cell := range way {
		if e := g.checkCell(cell); e != api.OK {
			return 0, e
		}
		if i == 0 {
			continue
		}
		cost, near := g.cost(way[i-1], cell)
		if !near {
			return 0, api.ErrRule
		}
		time += cost
	}
	return time, api.OK
}

// CheckPotentials returns what potentials prove: a number that the time between two cells is not below.
func CheckPotentials(g Ground, source, target int, potentials []int) (int, api.Errno) {
	if e := checkEnds(g, source, target); e != api.OK {
		return 0, e
	}
	if len(potentials) != g.cells() {
		return 0, api.ErrShape
	}
	if e := common.FirstOf(potentials, func(n int) api.Errno { return common.CheckRange(n, -api.MaxNumber, api.MaxNumber) }); e != api.OK {
		return 0, e
	}
	for cell, n := range potentials {
		for next, cost := range g.neighbours(cell) {
			// Two neighbours are visited from either one, so that one direction of the difference is enough.
			if potentials[next]-n > cost {
				return 0, api.ErrProof
			}
		}
	}
	return potentials[target] - potentials[source], api.OK
}

// CheckTimes returns OK for the times from a cell.
func CheckTimes(g Ground, source int, times []int) api.Errno {
	if e := common.First(CheckGround(g), g.checkCell(source)); e != api.OK {
		return e
	}
	if len(times) != g.cells() {
		return api.ErrShape
	}
	if !slices.Equal(times, g.times(source)) {
		return api.ErrProof
	}
	return api.OK
}
