package gun

import (
	"slices"

	"moveout/api"
	"moveout/common"
)

// mayDouble reports whether the volume of some guns is at most twice that of the first of them.
func mayDouble(guns []Gun, first int) bool {
	return volume(guns) <= 2*volume(guns[:first])
}

// SoftStart returns the guns of the steps of a soft start.
func SoftStart(s String) ([][]string, api.Errno) {
	if e := CheckString(s); e != api.OK {
		return nil, e
	}
	guns := slices.Clone(s.Guns)
	slices.SortStableFunc(guns, Gun.compare)
	var steps [][]string
	for fired := 0; fired < len(guns); {
		// The next gun alone is a step in any case, also if it is the first one, before which nothing fires.
		end := fired + 1
		for end < len(guns) && mayDouble(guns[:end+1], fired) {
			end++
		}
		steps = append(steps, names(guns[fired:end]))
		fired = end
	}
	return steps, api.OK
}

// checkSteps returns the first error of the steps of a soft start, or OK.
func checkSteps(s String, l [][]string) api.Errno {
	call := rollCall(s)
	e := common.FirstOf(l, func(step []string) api.Errno {
		if len(step) == 0 {
			return api.ErrEmpty
		}
		return common.FirstOf(step, call)
	})
	if e != api.OK {
		return e
	}
	// The names are different ones of the string: as many as guns are all of them.
	if len(slices.Concat(l...)) < len(s.Guns) {
		return api.ErrOpen
	}
	return api.OK
}

// CheckStart returns OK for the steps of a soft start.
func CheckStart(s String, l [][]string) api.Errno {
	if e := CheckString(s); e != api.OK {
		return e
	}
	if e := checkSteps(s, l); e != api.OK {
		return e
	}
	var firing []Gun
	for _, step := range l {
		waiting := others(s.Guns, firing)
		first := len(firing)
		firing = append(firing, named(s, step)...)
		// Before the first step nothing fires, so that its volume is more than twice what it was before.
		if !isLeastAlone(firing[first:], waiting) && !mayDouble(firing, first) {
			return api.ErrRule
		}
	}
	return api.OK
}

// isLeastAlone reports whether a step has one gun, and no gun that waits has a lesser volume.
func isLeastAlone(step, waiting []Gun) bool {
	return len(step) == 1 && step[0].Volume == slices.MinFunc(waiting, Gun.compare).Volume
}
