package filter

import (
	"moveout/api"
	"moveout/common"
)

// checkDelay returns ErrRange for a number that is no delay, and no bottom, or OK.
func checkDelay(delay int) api.Errno {
	return common.CheckRange(delay, 1, MaxDelay)
}

// ghostTaps returns the taps that make a ghost; there may be more of them than a list of taps has.
func ghostTaps(delay int) []int {
	taps := make([]int, delay+1)
	taps[0], taps[delay] = 1, -1
	return taps
}

// Ghost returns a list with its ghost.
func Ghost(l []float32, delay int) ([]float32, api.Errno) {
	if e := common.First(checkList(l), checkDelay(delay)); e != api.OK {
		return nil, e
	}
	return common.Samples(applied(ghostTaps(delay), common.Integers(l)))
}

// Deghost returns the list whose ghost was added.
func Deghost(l []float32, delay int) ([]float32, api.Errno) {
	if e := common.First(checkList(l), checkDelay(delay)); e != api.OK {
		return nil, e
	}
	return common.Samples(undone(ghostTaps(delay), common.Integers(l)))
}

// Notches returns the frequencies that a ghost takes away.
func Notches(delay int) ([]int, api.Errno) {
	if e := checkDelay(delay); e != api.OK {
		return nil, e
	}
	var notches []int
	for k := range 4 {
		if k*delay%4 == 0 {
			notches = append(notches, k)
		}
	}
	return notches, api.OK
}
