package gun

import (
	"iter"

	"moveout/api"
	"moveout/common"
)

// factors are by what the volume is multiplied at the four pulses of a bubble.
var factors = [4]int{4, -2, 2, 1}

func checkBubble(volume, shift int) api.Errno {
	return common.First(common.CheckRange(volume, 1, MaxVolume), common.CheckRange(shift, 0, MaxShift))
}

func checkWidth(width int) api.Errno {
	return common.CheckRange(width, 1, MaxWidth)
}

// Period returns the period of a bubble.
func Period(volume, shift int) (int, api.Errno) {
	if e := checkBubble(volume, shift); e != api.OK {
		return 0, e
	}
	return period(volume, shift), api.OK
}

func period(volume, shift int) int {
	return 4 + volume/8 + shift
}

// pulses visits the pulses of a bubble: their indices, and their integers.
func pulses(volume, shift int) iter.Seq2[int, int] {
	return func(yield func(int, int) bool) {
		p := period(volume, shift)
		for i, at := range [4]int{0, p / 2, p, 2 * p} {
			if !yield(at, factors[i]*volume) {
				return
			}
		}
	}
}

// Bubble returns the samples of a bubble.
func Bubble(volume, shift, width int) ([]float32, api.Errno) {
	if e := common.First(checkBubble(volume, shift), checkWidth(width)); e != api.OK {
		return nil, e
	}
	return common.Each(bubble(volume, shift, 0, width), common.Sample), api.OK
}

// bubble returns the integers of a bubble that begins at a tick, as far as a width goes.
func bubble(volume, shift, begins, width int) []int {
	l := make([]int, width)
	for at, n := range pulses(volume, shift) {
		if begins+at < width {
			l[begins+at] = n
		}
	}
	return l
}
