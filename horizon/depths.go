package horizon

import (
	"moveout/api"
	"moveout/common"
)

// checkLayers returns the first error of horizons and of velocities, or OK.
func checkLayers(l []Horizon, v []api.Interval) api.Errno {
	if e := CheckHorizons(l); e != api.OK {
		return e
	}
	if len(v) != len(l) {
		return api.ErrShape
	}
	return common.FirstOf(v, func(x api.Interval) api.Errno { return common.CheckInterval(x, 1, MaxVelocity) })
}

// checkAllHave returns ErrSpan if one of some horizons does not have a place, or OK.
func checkAllHave(l []Horizon, place int) api.Errno {
	return common.FirstOf(l, func(h Horizon) api.Errno { return h.checkHas(place) })
}

// thickness returns the ends of the thickness of a layer between two bands.
func thickness(above, below ends) ends {
	return ends{max(0, below[0]-above[1]), max(0, below[1]-above[0])}
}

// depths returns the ends of the depths of horizons at a place that all of them have.
func depths(l []Horizon, v []api.Interval, place int) []ends {
	// Above the first horizon the band, and the depth, is 0 to 0.
	var above, depth ends
	var out []ends
	for i, h := range l {
		below := h.band(place)
		thick := thickness(above, below)
		depth[0] += thick[0] * v[i].Low
		depth[1] += thick[1] * v[i].High
		out, above = append(out, depth), below
	}
	return out
}

// Depths returns the depths of all horizons at a place.
func Depths(l []Horizon, v []api.Interval, place int) ([]api.Interval, api.Errno) {
	if e := checkLayers(l, v); e != api.OK {
		return nil, e
	}
	if e := checkAllHave(l, place); e != api.OK {
		return nil, e
	}
	return common.Each(depths(l, v, place), ends.interval), api.OK
}
