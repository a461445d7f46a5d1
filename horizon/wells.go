package horizon

import (
	"slices"

	"moveout/api"
	"moveout/common"
)

func checkDepth(depth int) api.Errno {
	return common.CheckRange(depth, 0, MaxDepth)
}

// checkWells returns the first error of horizons, of velocities and of wells, or OK.
func checkWells(l []Horizon, v []api.Interval, wells []Well) api.Errno {
	if e := checkLayers(l, v); e != api.OK {
		return e
	}
	if len(wells) > MaxWells {
		return api.ErrMany
	}
	return common.FirstOf(wells, func(w Well) api.Errno { return w.check(l) })
}

// check returns the first error of a well of horizons without an error, or OK.
func (w Well) check(l []Horizon) api.Errno {
	e := common.First(
		checkPlace(w.Place),
		common.CheckIndex(w.Horizon, len(l)),
		checkDepth(w.Depth),
		checkDepth(w.Error),
	)
	if e != api.OK {
		return e
	}
	return checkAllHave(l[:w.Horizon+1], w.Place)
}

// tie is the ends of the depth of a well, and of that of its horizon there.
type tie struct {
	well    ends
	horizon ends
}

// ties returns the ties of wells without an error.
func ties(l []Horizon, v []api.Interval, wells []Well) []tie {
	return common.Each(wells, func(w Well) tie {
		return tie{
			well:    ends{w.Depth - w.Error, w.Depth + w.Error},
			horizon: depths(l[:w.Horizon+1], v, w.Place)[w.Horizon],
		}
	})
}

// allows reports whether all velocities could be so many parts of Whole of what they are.
func (t tie) allows(factor int) bool {
	return factor*t.horizon[1] >= Whole*t.well[0] && factor*t.horizon[0] <= Whole*t.well[1]
}

// Misties returns the wells that contradict horizons with velocities.
func Misties(l []Horizon, v []api.Interval, wells []Well) ([]int, api.Errno) {
	if e := checkWells(l, v, wells); e != api.OK {
		return nil, e
	}
	var out []int
	for i, t := range ties(l, v, wells) {
		if shared(t.well, t.horizon) == nothing {
			out = append(out, i)
		}
	}
	return out, api.OK
}

// Factors returns the least and the greatest factor.
func Factors(l []Horizon, v []api.Interval, wells []Well) (api.Interval, api.Errno) {
	if e := checkWells(l, v, wells); e != api.OK {
		return api.Interval{}, e
	}
	factors := slices.Collect(ends{MinFactor, MaxFactor}.integers())
	for _, t := range ties(l, v, wells) {
		factors = slices.DeleteFunc(factors, func(factor int) bool { return !t.allows(factor) })
	}
	if len(factors) == 0 {
		return api.Interval{}, api.ErrInfeasible
	}
	return api.Interval{Low: factors[0], High: factors[len(factors)-1]}, api.OK
}
