package image

import (
	"slices"

	"moveout/api"
	"moveout/common"
)

// none is in place of a sample that a cell does not have.
const none = -1

// CheckSurvey returns the first error of a ground and a survey, or OK.
func CheckSurvey(g Ground, s Survey) api.Errno {
	e := common.First(
		CheckGround(g),
		common.CheckRange(s.Unit, 1, MaxUnit),
		common.CheckRange(s.Length, 1, MaxLength),
		common.CheckRange(s.Most, 0, MaxLength),
	)
	if e != api.OK {
		return e
	}
	if len(s.Pairs) > MaxPairs {
		return api.ErrMany
	}
	return common.FirstOf(s.Pairs, func(p Pair) api.Errno {
		return common.First(g.checkCell(p.Source), g.checkCell(p.Receiver))
	})
}

// checkModel returns the first error of a model, or OK.
func (g Ground) checkModel(model []int) api.Errno {
	if len(model) != g.cells() {
		return api.ErrShape
	}
	return common.FirstOf(model, func(n int) api.Errno { return common.CheckRange(n, -MaxModel, MaxModel) })
}

// samples returns how many integers the trace of a pair has.
func (s Survey) samples(p Pair) int {
	if p.Hole {
		return 0
	}
	return s.Length
}

// checkTraces returns the first error of traces, or OK.
func (s Survey) checkTraces(data [][]int) api.Errno {
	if !slices.EqualFunc(s.Pairs, data, func(p Pair, l []int) bool { return len(l) == s.samples(p) }) {
		return api.ErrShape
	}
	return common.FirstOf(data, func(l []int) api.Errno {
		return common.FirstOf(l, func(n int) api.Errno { return common.CheckRange(n, -MaxData, MaxData) })
	})
}

// numbers returns for each cell its number for a pair.
func (g Ground) numbers(p Pair, unit int) []int {
	// Times are the same in both directions: those from the receiver are those to it.
	numbers, back := g.times(p.Source), g.times(p.Receiver)
	for cell := range g.cells() {
		numbers[cell] = (numbers[cell] + back[cell]) / unit
	}
	return numbers
}

// aliased reports whether the number of a cell differs by more than a greatest step from that of a straight neighbour.
func (g Ground) aliased(numbers []int, cell, most int) bool {
	for next := range g.neighbours(cell) {
		by := numbers[next] - numbers[cell]
		if g.straight(cell, next) && max(by, -by) > most {
			return true
		}
	}
	return false
}

// delays returns for each cell its sample for a pair of a survey, or none.
func (g Ground) delays(s Survey, p Pair) []int {
	delays := slices.Repeat([]int{none}, g.cells())
	if p.Hole {
		return delays
	}
	numbers := g.numbers(p, s.Unit)
	for cell, n := range numbers {
		if n < s.Length && !g.aliased(numbers, cell, s.Most) {
			delays[cell] = n
		}
	}
	return delays
}

// allDelays returns the delays for all pairs of a survey.
func (g Ground) allDelays(s Survey) [][]int {
	var all [][]int
	for i, p := range s.Pairs {
		// The same pair has the same delays, which take a while to find.
		if i > 0 && p == s.Pairs[i-1] {
			all = append(all, all[i-1])
			continue
		}
		all = append(all, g.delays(s, p))
	}
	return all
}

// Delays returns for each cell its sample for a pair, or -1.
func Delays(g Ground, s Survey, pair int) ([]int, api.Errno) {
	if e := common.First(CheckSurvey(g, s), common.CheckIndex(pair, len(s.Pairs))); e != api.OK {
		return nil, e
	}
	return g.delays(s, s.Pairs[pair]), api.OK
}
