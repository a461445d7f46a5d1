package image

import (
	"slices"

	"moveout/api"
	"moveout/common"
)

// Misfit returns the misfit of a model and traces.
func Misfit(g Ground, s Survey, model []int, data [][]int) (int, api.Errno) {
	if e := common.First(CheckSurvey(g, s), g.checkModel(model)); e != api.OK {
		return 0, e
	}
	if e := s.checkTraces(data); e != api.OK {
		return 0, e
	}
	rest := slices.Concat(g.traces(s, model)...)
	for i, n := range slices.Concat(data...) {
		rest[i] -= n
	}
	return common.Inner(rest, rest), api.OK
}

// Bound returns what dual traces prove: a number that no model's misfit is below.
func Bound(g Ground, s Survey, data, dual [][]int) (int, api.Errno) {
	if e := checkImage(g, s, data); e != api.OK {
		return 0, e
	}
	if e := s.checkTraces(dual); e != api.OK {
		return 0, e
	}
	if slices.ContainsFunc(g.whole(s, dual), func(n int) bool { return n != 0 }) {
		return 0, api.ErrProof
	}
	proof := slices.Concat(dual...)
	return 2*common.Inner(proof, slices.Concat(data...)) - common.Inner(proof, proof), api.OK
}

// Amplitude returns the amplitude of a cell.
func Amplitude(g Ground, s Survey, data [][]int, cell int) (api.Ratio, api.Errno) {
	if e := common.First(checkImage(g, s, data), g.checkCell(cell)); e != api.OK {
		return api.Ratio{}, e
	}
	var sum api.Ratio
	for pair, delays := range g.allDelays(s) {
		if at := delays[cell]; at != none {
			sum.Num += data[pair][at]
			sum.Den++
		}
	}
	if sum.Den == 0 {
		return api.Ratio{}, api.ErrSingular
	}
	return common.Lowest(sum), api.OK
}
