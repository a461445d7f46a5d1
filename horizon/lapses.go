package horizon

import (
	"cmp"
	"slices"

	"moveout/api"
	"moveout/common"
)

// lapse is the bands of two horizons at a common place.
type lapse struct {
	place  int
	first  ends
	second ends
}

// lapses returns the bands of two horizons at all common places.
func lapses(a, b Horizon) []lapse {
	var l []lapse
	for place := range commonPlaces(a, b).integers() {
		l = append(l, lapse{place: place, first: a.band(place), second: b.band(place)})
	}
	return l
}

// ground returns the ends of the common ground by a shift; it is nothing where both horizons differ.
func (x lapse) ground(shift int) ends {
	return shared(x.first, x.second.moved(shift))
}

// differences returns the places at which two horizons differ by a shift.
func differences(l []lapse, shift int) []int {
	var places []int
	for _, x := range l {
		if x.ground(shift) == nothing {
			places = append(places, x.place)
		}
	}
	return places
}

func checkShift(shift int) api.Errno {
	return common.CheckRange(shift, -MaxShift, MaxShift)
}

// Compare returns the places at which two horizons differ.
func Compare(a, b Horizon, shift int) ([]int, api.Errno) {
	if e := checkTwo(a, b, checkShift(shift)); e != api.OK {
		return nil, e
	}
	return differences(lapses(a, b), shift), api.OK
}

// trial is a shift, and the places at which two horizons differ by it.
type trial struct {
	shift  int
	places []int
}

// compare compares two trials: the better one is less.
func (x trial) compare(y trial) int {
	return cmp.Or(
		cmp.Compare(len(x.places), len(y.places)),
		cmp.Compare(max(x.shift, -x.shift), max(y.shift, -y.shift)),
		cmp.Compare(x.shift, y.shift),
	)
}

// Match returns the match of two horizons, and the places at which they differ by it.
func Match(a, b Horizon, most int) (int, []int, api.Errno) {
	if e := checkTwo(a, b, common.CheckRange(most, 0, MaxShift)); e != api.OK {
		return 0, nil, e
	}
	l := lapses(a, b)
	var trials []trial
	for shift := range (ends{-most, most}).integers() {
		trials = append(trials, trial{shift: shift, places: differences(l, shift)})
	}
	slices.SortFunc(trials, trial.compare)
	return trials[0].shift, trials[0].places, api.OK
}

// Common returns the common ground of two horizons.
func Common(a, b Horizon, shift int) ([]api.Interval, api.Errno) {
	if e := checkTwo(a, b, checkShift(shift)); e != api.OK {
		return nil, e
	}
	grounds := common.Each(lapses(a, b), func(x lapse) ends { return x.ground(shift) })
	if slices.Contains(grounds, nothing) {
		return nil, api.ErrInfeasible
	}
	return common.Each(grounds, ends.interval), api.OK
}
