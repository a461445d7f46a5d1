package image

import (
	"slices"

	"moveout/api"
	"moveout/common"
)

// traces returns the traces of a model.
func (g Ground) traces(s Survey, model []int) [][]int {
	out := common.Each(s.Pairs, func(p Pair) []int { return make([]int, s.samples(p)) })
	for pair, delays := range g.allDelays(s) {
		for cell, at := range delays {
			if at != none {
				out[pair][at] += model[cell]
			}
		}
	}
	return out
}

// Model returns the traces of a model.
func Model(g Ground, s Survey, model []int) ([][]int, api.Errno) {
	if e := common.First(CheckSurvey(g, s), g.checkModel(model)); e != api.OK {
		return nil, e
	}
	return g.traces(s, model), api.OK
}

// checkImage returns the first error of a ground, a survey and traces, or OK.
func checkImage(g Ground, s Survey, data [][]int) api.Errno {
	if e := CheckSurvey(g, s); e != api.OK {
		return e
	}
	return s.checkTraces(data)
}

// image returns the part of the image of traces in a span of cells.
func (g Ground) image(s Survey, data [][]int, cells api.Span) []int {
	out := make([]int, cells.To-cells.From)
	for pair, delays := range g.allDelays(s) {
		for i, at := range delays[cells.From:cells.To] {
			if at != none {
				out[i] += data[pair][at]
			}
		}
	}
	return out
}

// whole returns the image of traces.
func (g Ground) whole(s Survey, data [][]int) []int {
	return g.image(s, data, api.Span{To: g.cells()})
}

// Image returns the image of traces.
func Image(g Ground, s Survey, data [][]int) ([]int, api.Errno) {
	if e := checkImage(g, s, data); e != api.OK {
		return nil, e
	}
	return g.whole(s, data), api.OK
}

// Tile returns the part of the image of traces in a span of rows.
func Tile(g Ground, s Survey, data [][]int, rows api.Span) ([]int, api.Errno) {
	if e := common.First(checkImage(g, s, data), common.CheckSpan(rows, g.Rows)); e != api.OK {
		return nil, e
	}
	return g.image(s, data, api.Span{From: rows.From * g.Columns, To: rows.To * g.Columns}), api.OK
}

// Flat returns all integers of traces, pair by pair.
func Flat(g Ground, s Survey, data [][]int) ([]int, api.Errno) {
	if e := checkImage(g, s, data); e != api.OK {
		return nil, e
	}
	return slices.Concat(data...), api.OK
}

// Inner returns the inner product of two lists.
func Inner(a, b []int) (int, api.Errno) {
	if len(a) != len(b) {
		return 0, api.ErrShape
	}
	if len(a) > MaxFlat {
		return 0, api.ErrMany
	}
	check := func(n int) api.Errno { return common.CheckRange(n, -MaxInner, MaxInner) }
	if e := common.First(common.FirstOf(a, check), common.FirstOf(b, check)); e != api.OK {
		return 0, e
	}
	return common.Inner(a, b), api.OK
}
