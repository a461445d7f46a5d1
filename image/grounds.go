package image

import (
	"iter"
	"slices"

	"moveout/api"
	"moveout/common"
)

// CheckGround returns the first error of a ground, or OK.
func CheckGround(g Ground) api.Errno {
	if e := g.grid().Check(MaxSide, len(g.Slow)); e != api.OK {
		return e
	}
	return common.FirstOf(g.Slow, checkSlow)
}

// checkSlow returns ErrRange for a number that is no slowness, or OK.
func checkSlow(slow int) api.Errno {
	return common.CheckRange(slow, 1, MaxSlow)
}

// grid returns the cells of a ground.
func (g Ground) grid() common.Cells {
	return common.Cells{Columns: g.Columns, Rows: g.Rows}
}

// cells returns the number of the cells of a ground without an error.
func (g Ground) cells() int {
	return len(g.Slow)
}

// checkCell returns ErrUnknown for a number that is no cell of a ground without an error, or OK.
func (g Ground) checkCell(cell int) api.Errno {
	return common.CheckIndex(cell, g.cells())
}

// checkEnds returns the first error of a ground, of a source and of a target, or OK.
func checkEnds(g Ground, source, target int) api.Errno {
	return common.First(CheckGround(g), g.checkCell(source), g.checkCell(target))
}

// step leads from a cell to a neighbour: by so many columns and rows, at a cost of so many times the sum of both slownesses.
type step struct {
	columns int
	rows    int
	factor  int
}

// steps lead to all neighbours, in the order of their indices.
var steps = [8]step{
	{-1, -1, 3}, {0, -1, 2}, {1, -1, 3},
	{-1, 0, 2}, {1, 0, 2},
	{-1, 1, 3}, {0, 1, 2}, {1, 1, 3},
}

// neighbours visits the neighbours of a cell in ascending order, each with its cost.
func (g Ground) neighbours(cell int) iter.Seq2[int, int] {
	return func(yield func(int, int) bool) {
		for _, s := range steps {
			next, inside := g.grid().Beside(cell, s.columns, s.rows)
			if inside && !yield(next, s.factor*(g.Slow[cell]+g.Slow[next])) {
				return
			}
		}
	}
}

// straight reports whether two neighbours are straight ones.
func (g Ground) straight(a, b int) bool {
	return a%g.Columns == b%g.Columns || a/g.Columns == b/g.Columns
}

// cost returns the cost of two cells, and whether they are neighbours.
func (g Ground) cost(a, b int) (int, bool) {
	for next, cost := range g.neighbours(a) {
		if next == b {
			return cost, true
		}
	}
	return 0, false
}

// Cost returns the cost of two neighbours.
func Cost(g Ground, a, b int) (int, api.Errno) {
	if e := checkEnds(g, a, b); e != api.OK {
		return 0, e
	}
	cost, near := g.cost(a, b)
	if !near {
		return 0, api.ErrRule
	}
	return cost, api.OK
}

// Mirrored returns a ground with its columns, or its rows, in the opposite order.
func Mirrored(g Ground, rows bool) (Ground, api.Errno) {
	if e := CheckGround(g); e != api.OK {
		return Ground{}, e
	}
	g.Slow = slices.Clone(g.Slow)
	// Backwards as a whole, a ground has not only its rows in the opposite order, but its columns, too.
	if rows {
		slices.Reverse(g.Slow)
	}
	for row := range slices.Chunk(g.Slow, g.Columns) {
		slices.Reverse(row)
	}
	return g, api.OK
}

// Transposed returns a ground with columns and rows exchanged.
func Transposed(g Ground) (Ground, api.Errno) {
	if e := CheckGround(g); e != api.OK {
		return Ground{}, e
	}
	slow := make([]int, g.cells())
	for cell := range g.cells() {
		column, row := cell%g.Columns, cell/g.Columns
		slow[column*g.Rows+row] = g.Slow[cell]
	}
	return Ground{Columns: g.Rows, Rows: g.Columns, Slow: slow}, api.OK
}
