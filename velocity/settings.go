package velocity

import (
	"cmp"

	"moveout/api"
	"moveout/common"
)

// checkVelocity returns ErrRange for a number that is no squared velocity, or OK.
func checkVelocity(v int) api.Errno {
	return common.CheckRange(v, 1, MaxVelocity)
}

func checkWindow(window int) api.Errno {
	return common.CheckRange(window, 0, MaxWindow)
}

func checkStretch(stretch int) api.Errno {
	return common.CheckRange(stretch, 0, api.MaxSamples)
}

// CheckSetting returns the first error of a setting, or OK.
func CheckSetting(x Setting) api.Errno {
	if e := common.CheckCount(len(x.Fan), MaxRows); e != api.OK {
		return e
	}
	return common.First(
		common.CheckAscending(x.Fan, cmp.Compare[int], checkVelocity),
		checkWindow(x.Window),
		checkStretch(x.Stretch),
		common.CheckRange(x.Every, 1, api.MaxSamples),
	)
}

// times returns the number of the times of a setting that are below a width.
func (x Setting) times(width int) int {
	return (width + x.Every - 1) / x.Every
}

// squares returns the squared velocity of the fan for each row of a path, or ErrUnknown if the fan does not have one of the rows.
func (x Setting) squares(path []int) ([]int, api.Errno) {
	fan := map[int]int{}
	for row, v := range x.Fan {
		fan[row] = v
	}
	out := make([]int, len(path))
	for i, row := range path {
		v, known := fan[row]
		if !known {
			return nil, api.ErrUnknown
		}
		out[i] = v
	}
	return out, api.OK
}
