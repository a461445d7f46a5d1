package gun

import (
	"slices"

	"moveout/api"
	"moveout/common"
	"moveout/trace"
)

// The indices of the directions in the table of their letters.
const (
	down = iota
	fore
	aft
	port
	starboard
)

// letters are the letters of the directions.
var letters = [5]string{down: "down", fore: "fore", aft: "aft", port: "port", starboard: "starboard"}

// direction says how far ahead a place is in a direction.
type direction struct {
	ahead func(p api.Point) int
}

func directions() map[string]direction {
	return map[string]direction{
		letters[down]:      {ahead: func(api.Point) int { return 0 }},
		letters[fore]:      {ahead: func(p api.Point) int { return p.X }},
		letters[aft]:       {ahead: func(p api.Point) int { return -p.X }},
		letters[port]:      {ahead: func(p api.Point) int { return p.Y }},
		letters[starboard]: {ahead: func(p api.Point) int { return -p.Y }},
	}
}

// checkDirection returns ErrKind if a word is no direction, or OK.
func checkDirection(word string) api.Errno {
	if _, known := directions()[word]; !known {
		return api.ErrKind
	}
	return api.OK
}

// voice is a gun of a string, and the tick at which its bubble begins in a direction.
type voice struct {
	Gun
	begins int
}

// voices returns the voices of a string in a direction.
func voices(s String, word string) []voice {
	ahead := directions()[word].ahead
	front := slices.Max(common.Each(s.Guns, func(g Gun) int { return ahead(g.At) }))
	return common.Each(s.Guns, func(g Gun) voice {
		return voice{Gun: g, begins: g.Fires + (front-ahead(g.At))/Sound}
	})
}

// bubbles returns the integers of the bubble of a voice, with each of its shifts from the least one on.
func (v voice) bubbles(width int) [][]int {
	var l [][]int
	for more := range v.Shift.High - v.Shift.Low + 1 {
		l = append(l, bubble(v.Volume, v.Shift.Low+more, v.begins, width))
	}
	return l
}

// Arrival returns the tick at which the bubble of a gun begins in a direction.
func Arrival(s String, gun int, direction string) (int, api.Errno) {
	if e := CheckString(s); e != api.OK {
		return 0, e
	}
	if gun < 0 || gun >= len(s.Guns) {
		return 0, api.ErrUnknown
	}
	if e := checkDirection(direction); e != api.OK {
		return 0, e
	}
	return voices(s, direction)[gun].begins, api.OK
}

// checkShifts returns the first error of shifts for the guns of a string, or OK.
func checkShifts(s String, shifts []int) api.Errno {
	if len(shifts) != len(s.Guns) {
		return api.ErrShape
	}
	for i, g := range s.Guns {
		if e := common.CheckRange(shifts[i], g.Shift.Low, g.Shift.High); e != api.OK {
			return e
		}
	}
	return api.OK
}

// Signature returns the signature of a string.
func Signature(s String, shifts []int, direction string, width int) ([]float32, api.Errno) {
	if e := common.First(CheckString(s), checkShifts(s, shifts), checkDirection(direction), checkWidth(width)); e != api.OK {
		return nil, e
	}
	// Eight bubbles are too small for a sum that is no sample.
	return common.Each(signature(voices(s, direction), shifts, width), common.Sample), api.OK
}

// signature returns the integers of the sum of the bubbles of voices.
func signature(l []voice, shifts []int, width int) []int {
	sum := make([]int, width)
	for i, v := range l {
		for at, n := range bubble(v.Volume, shifts[i], v.begins, width) {
			sum[at] += n
		}
	}
	return sum
}

// Enclose returns the enclosure of the signatures of a string.
func Enclose(s String, direction string, width int) ([]api.Interval, api.Errno) {
	if e := common.First(CheckString(s), checkDirection(direction), checkWidth(width)); e != api.OK {
		return nil, e
	}
	return enclosure(voices(s, direction), width), api.OK
}

// enclosure returns the sums of the intervals of all voices. Their ends are reached, as the shift of each voice is free of those of the others.
func enclosure(l []voice, width int) []api.Interval {
	sum := make([]api.Interval, width)
	for _, v := range l {
		bubbles := v.bubbles(width)
		for at := range sum {
			pulses := common.Each(bubbles, func(b []int) int { return b[at] })
			sum[at].Low += slices.Min(pulses)
			sum[at].High += slices.Max(pulses)
		}
	}
	return sum
}

// checkSamples returns the first error of samples that a string may explain, or OK.
func checkSamples(l []float32) api.Errno {
	if e := common.CheckCount(len(l), MaxWidth); e != api.OK {
		return e
	}
	return common.FirstOf(l, trace.CheckSample)
}

// Outside returns the first sample that lies outside of the enclosure.
func Outside(s String, direction string, l []float32) (int, bool, api.Errno) {
	if e := common.First(CheckString(s), checkDirection(direction), checkSamples(l)); e != api.OK {
		return 0, false, e
	}
	for i, x := range enclosure(voices(s, direction), len(l)) {
		if !common.IsIn(common.Integer(l[i]), x) {
			return i, true, api.OK
		}
	}
	return 0, false, api.OK
}

// Explain returns shifts that explain a signature.
func Explain(s String, direction string, l []float32) ([]int, api.Errno) {
	if e := common.First(CheckString(s), checkDirection(direction), checkSamples(l)); e != api.OK {
		return nil, e
	}
	var start course
	copy(start.left[:], common.Each(l, common.Integer))
	courses := []course{start}
	all := voices(s, direction)
	for i, v := range all {
		courses = continued(courses, v, enclosure(all[i+1:], len(l)))
	}
	// Behind the last voice nothing is left, so that there is one course at most.
	if len(courses) == 0 {
		return nil, api.ErrInfeasible
	}
	return courses[0].shifts, api.OK
}

// course is shifts of the first voices of a string, and the integers that they leave for the others.
type course struct {
	shifts []int
	left   [MaxWidth]int
}

// continued returns the courses with a further shift, that of a voice, which leave what is in the enclosure of the other voices. Of several that leave the same it returns the first one: what follows is the same for all of them.
func continued(courses []course, v voice, others []api.Interval) []course {
	var longer []course
	known := map[[MaxWidth]int]bool{}
	bubbles := v.bubbles(len(others))
	for _, c := range courses {
	search:
		for more, b := range bubbles {
			left := c.left
			for at, x := range others {
				left[at] -= b[at]
				if !common.IsIn(left[at], x) {
					continue search
				}
			}
			if !known[left] {
				known[left] = true
				longer = append(longer, course{shifts: append(slices.Clone(c.shifts), v.Shift.Low+more), left: left})
			}
		}
	}
	return longer
}
