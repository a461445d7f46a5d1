package common

import "moveout/api"

// Cells are the cells of a grid, numbered row by row.
type Cells struct {
	Columns int
	Rows    int
}

// Check returns ErrRange if the columns, then if the rows are not from 1 to most, ErrShape if there is not an element for each cell, or OK.
func (c Cells) Check(most, elements int) api.Errno {
	if e := First(CheckRange(c.Columns, 1, most), CheckRange(c.Rows, 1, most)); e != api.OK {
		return e
	}
	if elements != c.Columns*c.Rows {
		return api.ErrShape
	}
	return api.OK
}

// At returns the cell in a column and a row, and whether there is one.
func (c Cells) At(column, row int) (int, bool) {
	if column < 0 || column >= c.Columns || row < 0 || row >= c.Rows {
		return 0, false
	}
	return row*c.Columns + column, true
}

// Beside returns the cell that is so many columns and rows from another one, and whether there is one.
func (c Cells) Beside(cell, columns, rows int) (int, bool) {
	return c.At(cell%c.Columns+columns, cell/c.Columns+rows)
}
