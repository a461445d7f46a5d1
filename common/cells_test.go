package common_test

import (
	"math"
	"testing"

	"moveout/api"
	"moveout/common"
)

func TestCheckCells(t *testing.T) {
	for _, x := range []struct {
		c        common.Cells
		elements int
		e        api.Errno
	}{
		{common.Cells{Columns: 1, Rows: 1}, 1, api.OK}, {common.Cells{Columns: 4, Rows: 3}, 12, api.OK}, {common.Cells{Columns: 1, Rows: 4}, 4, api.OK},
		{common.Cells{}, 0, api.ErrRange}, {common.Cells{Columns: 0, Rows: 1}, 0, api.ErrRange}, {common.Cells{Columns: 1, Rows: 0}, 0, api.ErrRange}, {common.Cells{Columns: 5, Rows: 1}, 5, api.ErrRange}, {common.Cells{Columns: 1, Rows: 5}, 5, api.ErrRange}, {common.Cells{Columns: -2, Rows: -2}, 4, api.ErrRange}, {common.Cells{Columns: math.MaxInt, Rows: math.MinInt}, 4, api.ErrRange},
		{common.Cells{Columns: 4, Rows: 3}, 11, api.ErrShape}, {common.Cells{Columns: 4, Rows: 3}, 13, api.ErrShape}, {common.Cells{Columns: 1, Rows: 1}, 0, api.ErrShape},
	} {
		if got := x.c.Check(4, x.elements); got != x.e {
			t.Errorf("Check of %v with %d elements: got %d, want %d", x.c, x.elements, got, x.e)
		}
	}
}

// cellAt is a cell, and whether there is one.
type cellAt struct {
	cell int
	is   bool
}

func TestCellAt(t *testing.T) {
	c := common.Cells{Columns: 3, Rows: 2}
	for x, want := range map[[2]int]cellAt{
		{0, 0}: {0, true}, {2, 0}: {2, true}, {0, 1}: {3, true}, {2, 1}: {5, true},
		{-1, 0}: {}, {3, 0}: {}, {0, -1}: {}, {0, 2}: {}, {math.MinInt, 1}: {}, {1, math.MaxInt}: {},
	} {
		cell, is := c.At(x[0], x[1])
		if got := (cellAt{cell, is}); got != want {
			t.Errorf("At %v: got %v, want %v", x, got, want)
		}
	}
}

func TestCellBeside(t *testing.T) {
	c := common.Cells{Columns: 3, Rows: 2}
	for x, want := range map[[3]int]cellAt{
		{4, 0, 0}: {4, true}, {4, 1, 0}: {5, true}, {4, -1, -1}: {0, true}, {1, 1, 1}: {5, true}, {0, 2, 1}: {5, true}, {2, -2, 0}: {0, true},
		{2, 1, 0}: {}, {3, -1, 0}: {}, {4, 0, 1}: {}, {1, 0, -1}: {}, {5, 1, -1}: {},
	} {
		cell, is := c.Beside(x[0], x[1], x[2])
		if got := (cellAt{cell, is}); got != want {
			t.Errorf("Beside %v: got %v, want %v", x, got, want)
		}
	}
}
