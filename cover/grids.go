package cover

import (
	"cmp"
	"slices"

	"moveout/api"
	"moveout/common"
)

// checkPoint returns ErrRange if a coordinate of a point is not from -most to most, or OK.
func checkPoint(p api.Point, most int) api.Errno {
	nearest := api.Point{X: max(-most, min(p.X, most)), Y: max(-most, min(p.Y, most))}
	if p != nearest {
		return api.ErrRange
	}
	return api.OK
}

func checkPlace(p Place) api.Errno {
	return common.First(checkPoint(p.Source, api.MaxPlace), checkPoint(p.Receiver, api.MaxPlace))
}

// CheckGrid returns the first error of a grid, or OK.
func CheckGrid(g Grid) api.Errno {
	return common.First(
		checkPoint(g.Origin, api.MaxPlace),
		common.CheckRange(g.Width, 1, MaxBin),
		common.CheckRange(g.Height, 1, MaxBin),
		common.CheckRange(g.Columns, 1, MaxSide),
		common.CheckRange(g.Rows, 1, MaxSide),
	)
}

// checkClasses returns the first error of classes, or OK.
func checkClasses(l []int) api.Errno {
	if e := common.CheckCount(len(l), MaxClasses); e != api.OK {
		return e
	}
	return common.CheckAscending(l, cmp.Compare[int], func(x int) api.Errno { return common.CheckRange(x, 1, MaxSquare) })
}

// bins returns the number of bins of a grid.
func (g Grid) bins() int {
	return g.Columns * g.Rows
}

// bin returns the bin of a place, or -1.
func (g Grid) bin(p Place) int {
	// A coordinate of the middle need not be an integer; twice the coordinate is one.
	column := common.Floor(p.Source.X+p.Receiver.X-2*g.Origin.X, 2*g.Width)
	row := common.Floor(p.Source.Y+p.Receiver.Y-2*g.Origin.Y, 2*g.Height)
	bin, inside := common.Cells{Columns: g.Columns, Rows: g.Rows}.At(column, row)
	if !inside {
		return -1
	}
	return bin
}

// Bin returns the bin of a place, or -1 if it lies outside of a grid.
func Bin(g Grid, p Place) (int, api.Errno) {
	if e := common.First(CheckGrid(g), checkPlace(p)); e != api.OK {
		return 0, e
	}
	return g.bin(p), api.OK
}

// classOf returns the class of a place, or -1.
func classOf(classes []int, p Place) int {
	square := common.Squared(p.Source, p.Receiver)
	return slices.IndexFunc(classes, func(x int) bool { return x > square })
}

// Class returns the class of a place, or -1 if its offset is too large.
func Class(classes []int, p Place) (int, api.Errno) {
	if e := common.First(checkClasses(classes), checkPlace(p)); e != api.OK {
		return 0, e
	}
	return classOf(classes, p), api.OK
}
