package horizon

import (
	"maps"
	"slices"
	"sort"

	"moveout/api"
	"moveout/common"
)

// grid returns the cells of a map.
func (m Map) grid() common.Cells {
	return common.Cells{Columns: m.Columns, Rows: m.Rows}
}

// CheckMap returns the first error of a map, or OK.
func CheckMap(m Map) api.Errno {
	if e := m.grid().Check(MaxSide, len(m.Depths)); e != api.OK {
		return e
	}
	return common.FirstOf(m.Depths, func(x api.Interval) api.Errno { return common.CheckInterval(x, 0, MaxDepth) })
}

// checkCell returns the first error of a map and of a cell, or OK.
func checkCell(m Map, cell int) api.Errno {
	if e := CheckMap(m); e != api.OK {
		return e
	}
	return common.CheckIndex(cell, len(m.Depths))
}

// relief is one depth in each cell of a map.
type relief struct {
	grid   common.Cells
	depths []int
}

// highs returns the relief of a map whose depths are as great as can be.
func (m Map) highs() relief {
	return relief{m.grid(), common.Each(m.Depths, func(x api.Interval) int { return x.High })}
}

// lows returns the relief of a map whose depths are as small as can be.
func (m Map) lows() relief {
	return relief{m.grid(), common.Each(m.Depths, func(x api.Interval) int { return x.Low })}
}

// steps lead to all neighbours of a cell: by so many columns and rows.
var steps = [4][2]int{{0, -1}, {-1, 0}, {1, 0}, {0, 1}}

// neighbours returns the neighbours of a cell.
func (r relief) neighbours(cell int) []int {
	var l []int
	for _, s := range steps {
		if next, inside := r.grid.Beside(cell, s[0], s[1]); inside {
			l = append(l, next)
		}
	}
	return l
}

// onBorder reports whether a cell is of the border.
func (r relief) onBorder(cell int) bool {
	column, row := cell%r.grid.Columns, cell/r.grid.Columns
	return column == 0 || column == r.grid.Columns-1 || row == 0 || row == r.grid.Rows-1
}

// region returns the region of a cell by a contact.
func (r relief) region(cell, contact int) []int {
	reached := map[int]bool{}
	waiting := []int{cell}
	for len(waiting) > 0 {
		next := waiting[0]
		waiting = waiting[1:]
		if reached[next] || r.depths[next] >= contact {
			continue
		}
		reached[next] = true
		waiting = append(waiting, r.neighbours(next)...)
	}
	return slices.Sorted(maps.Keys(reached))
}

// spill returns the spill of a cell.
func (r relief) spill(cell int) int {
	depths := slices.Sorted(slices.Values(r.depths))
	// Where no cell of a way to the border is deeper than a depth, the way is in the region by the next greater contact; by the greatest depth there is one.
	i := sort.Search(len(depths)-1, func(i int) bool {
		return slices.ContainsFunc(r.region(cell, depths[i]+1), r.onBorder)
	})
	return depths[i]
}

// volume returns the volume of the region of a cell by a contact.
func (r relief) volume(cell, contact int) int {
	sum := 0
	for _, i := range r.region(cell, contact) {
		sum += contact - r.depths[i]
	}
	return sum
}

// Spill returns the spill of a cell.
func Spill(m Map, cell int) (api.Interval, api.Errno) {
	if e := checkCell(m, cell); e != api.OK {
		return api.Interval{}, e
	}
	return api.Interval{Low: m.lows().spill(cell), High: m.highs().spill(cell)}, api.OK
}

// Region returns the sure and the possible region of a cell.
func Region(m Map, cell, contact int) ([]int, []int, api.Errno) {
	if e := common.First(checkCell(m, cell), checkDepth(contact)); e != api.OK {
		return nil, nil, e
	}
	return m.highs().region(cell, contact), m.lows().region(cell, contact), api.OK
}

// Volume returns the volume of a cell.
func Volume(m Map, cell, contact int) (api.Interval, api.Errno) {
	if e := common.First(checkCell(m, cell), checkDepth(contact)); e != api.OK {
		return api.Interval{}, e
	}
	return api.Interval{Low: m.highs().volume(cell, contact), High: m.lows().volume(cell, contact)}, api.OK
}
