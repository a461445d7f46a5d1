package horizon

import (
	"slices"

	"moveout/api"
	"moveout/common"
)

// check returns the first error of a fault, or OK.
func (f Fault) check() api.Errno {
	return common.First(checkPlace(f.Place), common.CheckRange(f.Throw, -MaxThrow, MaxThrow))
}

// Faulted returns the faulted horizon.
func Faulted(h Horizon, f Fault) (Horizon, api.Errno) {
	if e := common.First(CheckHorizon(h), f.check()); e != api.OK {
		return Horizon{}, e
	}
	h.Picks = slices.Clone(h.Picks)
	for i, p := range h.Picks {
		if p.Place < f.Place {
			continue
		}
		h.Picks[i].Time += f.Throw
		if checkTime(h.Picks[i].Time) != api.OK {
			return Horizon{}, api.ErrLarge
		}
	}
	return h, api.OK
}

// Steps returns the steps of a horizon.
func Steps(h Horizon, slope int) ([]int, api.Errno) {
	if e := common.First(CheckHorizon(h), checkTime(slope)); e != api.OK {
		return nil, e
	}
	var l []int
	for i, p := range h.Picks[1:] {
		before := h.Picks[i]
		by := p.Time - before.Time
		if max(by, -by) > slope*(p.Place-before.Place) {
			l = append(l, p.Place)
		}
	}
	return l, api.OK
}

// Filled returns the filled horizon.
func Filled(h Horizon) (Horizon, api.Errno) {
	if e := CheckHorizon(h); e != api.OK {
		return Horizon{}, e
	}
	places := slices.Collect(h.places().integers())
	picks := common.Each(places, func(place int) Pick {
		t := h.time(place)
		return Pick{Place: place, Time: common.Rounded(t.Num, t.Den)}
	})
	return Horizon{Name: h.Name, Error: h.Error, Picks: picks}, api.OK
}
