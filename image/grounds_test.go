package image_test

import (
	"math"
	"testing"

	"moveout/api"
	"moveout/image"
)

// P7.1: CheckGround.
func TestCheckGround(t *testing.T) {
	for _, g := range []image.Ground{groundG(), ground(1, 1, 1), ground(1, 1, 100), even(16, 16, 100), even(16, 1, 1), even(1, 16, 1), ground(3, 2, 1, 2, 3, 4, 5, 100)} {
		same(t, "CheckGround", image.CheckGround(g), api.OK)
	}
	for _, x := range badGrounds() {
		same(t, "CheckGround of "+x.what, image.CheckGround(x.g), x.e)
	}
}

// P7.1: Cost.
func TestCost(t *testing.T) {
	for cells, want := range map[[2]int]int{{0, 1}: 6, {0, 2}: 8, {0, 3}: 15, {1, 2}: 15, {1, 3}: 12, {2, 3}: 14} {
		for _, c := range [][2]int{cells, {cells[1], cells[0]}} {
			n, e := image.Cost(groundG(), c[0], c[1])
			ok(t, "Cost", e)
			same(t, "Cost", []any{c, n}, []any{c, want})
		}
	}
	n, e := image.Cost(even(16, 16, 100), 238, 255)
	ok(t, "Cost", e)
	same(t, "the greatest cost", n, 600)
}

// P7.1: Cost follows its definition for all cells of some grounds; others than neighbours have none.
func TestCostByDefinition(t *testing.T) {
	r := random(1)
	for range 60 {
		g := r.ground(5, 100)
		for a := range g.Slow {
			for b := range g.Slow {
				n, e := image.Cost(g, a, b)
				want, near := costOf(g, a, b)
				if near {
					ok(t, "Cost", e)
					same(t, "Cost", n, want)
					continue
				}
				fails(t, "Cost of no neighbours", e, api.ErrRule, n)
			}
		}
	}
}

// P7.1: the errors of Cost.
func TestCostErrors(t *testing.T) {
	for _, x := range badGrounds() {
		n, e := image.Cost(x.g, -1, -1)
		fails(t, "Cost in "+x.what, e, x.e, n)
	}
	for _, cell := range badCells {
		for _, x := range [][2]int{{cell, 0}, {0, cell}, {cell, cell}} {
			n, e := image.Cost(groundG(), x[0], x[1])
			fails(t, "Cost of a bad cell", e, api.ErrUnknown, n)
		}
	}
	wide := even(3, 3, 1)
	// 2 and 3 follow one another, but stand at both ends of their rows.
	for _, x := range [][2]int{{0, 0}, {8, 8}, {0, 2}, {2, 0}, {0, 6}, {2, 3}, {3, 2}, {0, 8}, {5, 6}, {2, 6}, {1, 6}, {0, 5}} {
		n, e := image.Cost(wide, x[0], x[1])
		fails(t, "Cost of no neighbours", e, api.ErrRule, n)
	}
}

// P7.1: Mirrored and Transposed.
func TestMirrored(t *testing.T) {
	six := ground(3, 2, 1, 2, 3, 4, 5, 6)
	for _, x := range []struct {
		g                         image.Ground
		columns, rows, transposed image.Ground
	}{
		{groundG(), ground(2, 2, 2, 1, 4, 3), ground(2, 2, 3, 4, 1, 2), ground(2, 2, 1, 3, 2, 4)},
		{six, ground(3, 2, 3, 2, 1, 6, 5, 4), ground(3, 2, 4, 5, 6, 1, 2, 3), ground(2, 3, 1, 4, 2, 5, 3, 6)},
		{ground(1, 1, 7), ground(1, 1, 7), ground(1, 1, 7), ground(1, 1, 7)},
		{ground(3, 1, 1, 2, 3), ground(3, 1, 3, 2, 1), ground(3, 1, 1, 2, 3), ground(1, 3, 1, 2, 3)},
		{ground(1, 3, 1, 2, 3), ground(1, 3, 1, 2, 3), ground(1, 3, 3, 2, 1), ground(3, 1, 1, 2, 3)},
	} {
		g, e := image.Mirrored(x.g, false)
		ok(t, "Mirrored", e)
		same(t, "Mirrored", g, x.columns)
		g, e = image.Mirrored(x.g, true)
		ok(t, "Mirrored", e)
		same(t, "Mirrored rows", g, x.rows)
		g, e = image.Transposed(x.g)
		ok(t, "Transposed", e)
		same(t, "Transposed", g, x.transposed)
	}
	for _, x := range badGrounds() {
		for _, rows := range []bool{false, true} {
			g, e := image.Mirrored(x.g, rows)
			fails(t, "Mirrored of "+x.what, e, x.e, g)
		}
		g, e := image.Transposed(x.g)
		fails(t, "Transposed of "+x.what, e, x.e, g)
	}
}

// P7.1: a ground that has only just too many cells, or a cell with the greatest number, is refused, not cut.
func TestLargestGround(t *testing.T) {
	g := even(16, 16, 1)
	for _, cell := range []int{256, -1, math.MaxInt} {
		n, e := image.Cost(g, 0, cell)
		fails(t, "Cost", e, api.ErrUnknown, n)
		l, e := image.Times(g, cell)
		fails(t, "Times", e, api.ErrUnknown, l)
	}
	g.Slow = append(g.Slow, 1)
	l, e := image.Times(g, 0)
	fails(t, "Times", e, api.ErrShape, l)
}
