package gun

import (
	"slices"

	"moveout/api"
	"moveout/common"
	"moveout/trace"
)

// The parts of a rule.
const (
	bandCount = 3
	share     = 64 // what least shares are parts of
)

// block is the number of samples of a block, of which bands have the energies.
const block = 4

// Bands returns the energies of the three bands of a list of samples.
func Bands(l []float32) ([3]int, api.Errno) {
	if len(l) > api.MaxSamples {
		return [3]int{}, api.ErrMany
	}
	if e := common.FirstOf(l, trace.CheckSample); e != api.OK {
		return [3]int{}, e
	}
	return bands(common.Each(l, common.Integer)), api.OK
}

// bands returns the bands of samples with some integers.
func bands(l []int) [bandCount]int {
	var sum [bandCount]int
	for ; len(l) >= block; l = l[block:] {
		a, b, c, d := l[0], l[1], l[2], l[3]
		sum[0] += (a + b + c + d) * (a + b + c + d)
		sum[1] += (a-c)*(a-c) + (b-d)*(b-d)
		sum[2] += (a - b + c - d) * (a - b + c - d)
	}
	return sum
}

// CheckRules returns the first error of rules for drop-outs, or OK.
func CheckRules(l []Rule) api.Errno {
	if len(l) > MaxRules {
		return api.ErrMany
	}
	return common.FirstOf(l, func(r Rule) api.Errno {
		return common.First(checkDirection(r.Direction), common.CheckRange(r.Band, 0, bandCount-1), common.CheckRange(r.Least, 0, share))
	})
}

// Without returns a string without some guns.
func Without(s String, dropped []string) (String, api.Errno) {
	if e := CheckString(s); e != api.OK {
		return String{}, e
	}
	if e := common.FirstOf(dropped, rollCall(s)); e != api.OK {
		return String{}, e
	}
	left := others(s.Guns, named(s, dropped))
	if len(left) == 0 {
		return String{}, api.ErrEmpty
	}
	return String{Guns: left}, api.OK
}

// trial is a rule that is asked of drop-outs of a string: the voices of the string in the direction of the rule, and their bands.
type trial struct {
	Rule
	voices []voice
	whole  [bandCount]int
}

// trials returns the trials of a string by some rules, with a width.
func trials(s String, l []Rule, width int) []trial {
	return common.Each(l, func(r Rule) trial {
		all := voices(s, r.Direction)
		return trial{Rule: r, voices: all, whole: leastBands(all, width)}
	})
}

// leastBands returns the bands of the signature of some voices with their least shifts.
func leastBands(l []voice, width int) [bandCount]int {
	shifts := common.Each(l, func(v voice) int { return v.Shift.Low })
	return bands(signature(l, shifts, width))
}

// refuses reports whether the rule of a trial refuses some guns as drop-outs.
func (t trial) refuses(dropped []Gun, width int) bool {
	// The lags stay those of the whole string, so that the others of its voices fire, and not those of a string without the guns.
	firing := slices.DeleteFunc(slices.Clone(t.voices), func(v voice) bool { return slices.Contains(dropped, v.Gun) })
	left := leastBands(firing, width)
	// What leaves the bands as they are is never refused.
	return left != t.whole && share*left[t.Band] < t.Least*t.whole[t.Band]
}

// Refused returns the rules that refuse drop-outs.
func Refused(s String, l []Rule, dropped []string, width int) ([]int, api.Errno) {
	if e := CheckString(s); e != api.OK {
		return nil, e
	}
	if e := common.First(CheckRules(l), common.FirstOf(dropped, rollCall(s)), checkWidth(width)); e != api.OK {
		return nil, e
	}
	guns := named(s, dropped)
	var refused []int
	for i, t := range trials(s, l, width) {
		if t.refuses(guns, width) {
			refused = append(refused, i)
		}
	}
	return refused, api.OK
}

// Largest returns the largest drop-outs that no rule refuses.
func Largest(s String, l []Rule, width int) ([]string, api.Errno) {
	if e := common.First(CheckString(s), CheckRules(l), checkWidth(width)); e != api.OK {
		return nil, e
	}
	all := trials(s, l, width)
	var largest []Gun
	// Downwards, so that of the sets of so many guns the first one comes first: that of the first guns, which have the highest bits.
	for set := 1<<len(s.Guns) - 1; set > 0; set-- {
		dropped := common.Subset(s.Guns, set)
		refuses := func(t trial) bool { return t.refuses(dropped, width) }
		if len(dropped) > len(largest) && !slices.ContainsFunc(all, refuses) {
			largest = dropped
		}
	}
	return names(largest), api.OK
}
