package horizon

import (
	"moveout/api"
	"moveout/common"
)

// commonPlaces returns the ends of the common places of two horizons, or nothing.
func commonPlaces(a, b Horizon) ends {
	return shared(a.places(), b.places())
}

// checkTwo returns the first error of two horizons, the first one of what is asked with them, ErrNone if they have no common place, or OK.
func checkTwo(a, b Horizon, more ...api.Errno) api.Errno {
	if e := common.First(CheckHorizon(a), CheckHorizon(b), common.First(more...)); e != api.OK {
		return e
	}
	if commonPlaces(a, b) == nothing {
		return api.ErrNone
	}
	return api.OK
}

// crossing returns the first common place at which a horizon crosses another one, and whether there is one.
func crossing(a, b Horizon) (int, bool) {
	for place := range commonPlaces(a, b).integers() {
		x, y := a.time(place), b.time(place)
		if x.Num*y.Den > y.Num*x.Den {
			return place, true
		}
	}
	return 0, false
}

// Crossing returns the first common place at which a horizon crosses another one, and whether there is one.
func Crossing(a, b Horizon) (int, bool, api.Errno) {
	if e := checkTwo(a, b); e != api.OK {
		return 0, false, e
	}
	place, crosses := crossing(a, b)
	return place, crosses, api.OK
}

// Ordered returns the first crossing of a list, and whether there is one.
func Ordered(l []Horizon) ([3]int, bool, api.Errno) {
	if e := CheckHorizons(l); e != api.OK {
		return [3]int{}, false, e
	}
	var first [3]int
	found := false
search:
	for i, upper := range l {
		for j := i + 1; j < len(l); j++ {
			place, crosses := crossing(upper, l[j])
			if crosses {
				first, found = [3]int{i, j, place}, true
				break search
			}
		}
	}
	return first, found, api.OK
}
