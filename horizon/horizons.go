package horizon

import (
	"cmp"
	"slices"

	"moveout/api"
	"moveout/common"
	"moveout/trace"
)

func checkPlace(place int) api.Errno {
	return common.CheckRange(place, 0, MaxPlaces-1)
}

func checkTime(time int) api.Errno {
	return common.CheckRange(time, 0, api.MaxTime)
}

// check returns the first error of a pick, or OK.
func (p Pick) check() api.Errno {
	return common.First(checkPlace(p.Place), checkTime(p.Time))
}

// compare compares the places of two picks.
func (p Pick) compare(q Pick) int {
	return cmp.Compare(p.Place, q.Place)
}

// CheckHorizon returns the first error of a horizon, or OK.
func CheckHorizon(h Horizon) api.Errno {
	if !trace.IsName(h.Name) {
		return api.ErrName
	}
	if e := common.First(common.CheckRange(h.Error, 0, MaxError), common.CheckCount(len(h.Picks), MaxPlaces)); e != api.OK {
		return e
	}
	return common.CheckAscending(h.Picks, Pick.compare, Pick.check)
}

// CheckHorizons returns the first error of horizons, or OK.
func CheckHorizons(l []Horizon) api.Errno {
	if len(l) > MaxHorizons {
		return api.ErrMany
	}
	return common.FirstOf(l, common.RollCall(CheckHorizon, func(h Horizon) string { return h.Name }))
}

// places returns the ends of the places that a horizon without an error has.
func (h Horizon) places() ends {
	return ends{h.Picks[0].Place, h.Picks[len(h.Picks)-1].Place}
}

// checkHas returns ErrSpan if a horizon without an error does not have a place, or OK.
func (h Horizon) checkHas(place int) api.Errno {
	if !common.IsIn(place, h.places().interval()) {
		return api.ErrSpan
	}
	return api.OK
}

// around returns the picks before and after a place that a horizon has: both are the pick there if there is one.
func (h Horizon) around(place int) (before, after Pick) {
	i, found := slices.BinarySearchFunc(h.Picks, Pick{Place: place}, Pick.compare)
	if found {
		return h.Picks[i], h.Picks[i]
	}
	return h.Picks[i-1], h.Picks[i]
}

// time returns the time of a horizon at a place that it has.
func (h Horizon) time(place int) api.Ratio {
	before, after := h.around(place)
	if before == after {
		return api.Ratio{Num: before.Time, Den: 1}
	}
	gone, left := place-before.Place, after.Place-place
	return common.Lowest(api.Ratio{Num: before.Time*left + after.Time*gone, Den: gone + left})
}

// band returns the ends of the band of a horizon at a place that it has.
func (h Horizon) band(place int) ends {
	t := h.time(place)
	// Opposite numbers make the floor a ceiling.
	return ends{common.Floor(t.Num, t.Den) - h.Error, -common.Floor(-t.Num, t.Den) + h.Error}
}

// checkAt returns the first error of a horizon and of a place, or OK.
func checkAt(h Horizon, place int) api.Errno {
	if e := CheckHorizon(h); e != api.OK {
		return e
	}
	return h.checkHas(place)
}

// At returns the time of a horizon at a place.
func At(h Horizon, place int) (api.Ratio, api.Errno) {
	if e := checkAt(h, place); e != api.OK {
		return api.Ratio{}, e
	}
	return h.time(place), api.OK
}

// Band returns the band of a horizon at a place.
func Band(h Horizon, place int) (api.Interval, api.Errno) {
	if e := checkAt(h, place); e != api.OK {
		return api.Interval{}, e
	}
	return h.band(place).interval(), api.OK
}
