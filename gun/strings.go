package gun

import (
	"cmp"
	"slices"

	"moveout/api"
	"moveout/common"
	"moveout/trace"
)

// numbers are the six integers of a gun, in the order in which they are checked and printed.
type numbers [6]int

// ranges are the ranges of the six integers of a gun.
var ranges = [6]api.Interval{
	{Low: 1, High: MaxVolume},
	{Low: -MaxSide, High: MaxSide},
	{Low: -MaxSide, High: MaxSide},
	{Low: 0, High: MaxFire},
	{Low: 0, High: MaxShift},
	{Low: 0, High: MaxShift},
}

func numbersOf(g Gun) numbers {
	return numbers{g.Volume, g.At.X, g.At.Y, g.Fires, g.Shift.Low, g.Shift.High}
}

// gun returns the gun with a name and these integers.
func (n numbers) gun(name string) Gun {
	return Gun{Name: name, Volume: n[0], At: api.Point{X: n[1], Y: n[2]}, Fires: n[3], Shift: api.Interval{Low: n[4], High: n[5]}}
}

// CheckString returns the first error of a string of guns, or OK.
func CheckString(s String) api.Errno {
	if e := common.CheckCount(len(s.Guns), MaxGuns); e != api.OK {
		return e
	}
	for i, g := range s.Guns {
		if e := checkGun(s.Guns[:i], g); e != api.OK {
			return e
		}
	}
	return api.OK
}

// checkGun returns the first error of a gun behind others, or OK.
func checkGun(before []Gun, g Gun) api.Errno {
	if !trace.IsName(g.Name) {
		return api.ErrName
	}
	if find(before, g.Name) >= 0 {
		return api.ErrTwice
	}
	for i, n := range numbersOf(g) {
		if e := common.CheckRange(n, ranges[i].Low, ranges[i].High); e != api.OK {
			return e
		}
	}
	return common.CheckOrder(g.Shift)
}

// compare compares guns by their volumes.
func (g Gun) compare(h Gun) int {
	return cmp.Compare(g.Volume, h.Volume)
}

// find returns the index of the gun with a name, or -1.
func find(guns []Gun, name string) int {
	return slices.IndexFunc(guns, func(g Gun) bool { return g.Name == name })
}

func names(guns []Gun) []string {
	return common.Each(guns, func(g Gun) string { return g.Name })
}

// named returns the guns of a string with some names, in the order of the names; there are guns with all of them.
func named(s String, l []string) []Gun {
	return common.Each(l, func(name string) Gun { return s.Guns[find(s.Guns, name)] })
}

// others returns the guns that are not among some.
func others(guns, some []Gun) []Gun {
	return slices.DeleteFunc(slices.Clone(guns), func(g Gun) bool { return slices.Contains(some, g) })
}

// rollCall returns a function that is told names one by one, and returns ErrUnknown for one that no gun of a string has, ErrTwice for one that it was told before, or OK.
func rollCall(s String) func(name string) api.Errno {
	known := func(name string) api.Errno {
		if find(s.Guns, name) < 0 {
			return api.ErrUnknown
		}
		return api.OK
	}
	return common.RollCall(known, func(name string) string { return name })
}

func volume(guns []Gun) int {
	sum := 0
	for _, g := range guns {
		sum += g.Volume
	}
	return sum
}

// Volume returns the volume of a string.
func Volume(s String) (int, api.Errno) {
	if e := CheckString(s); e != api.OK {
		return 0, e
	}
	return volume(s.Guns), api.OK
}

// Centre returns the centre of the volumes of a string.
func Centre(s String) ([2]api.Ratio, api.Errno) {
	if e := CheckString(s); e != api.OK {
		return [2]api.Ratio{}, e
	}
	x, y := 0, 0
	for _, g := range s.Guns {
		x += g.Volume * g.At.X
		y += g.Volume * g.At.Y
	}
	whole := volume(s.Guns)
	return [2]api.Ratio{common.Lowest(api.Ratio{Num: x, Den: whole}), common.Lowest(api.Ratio{Num: y, Den: whole})}, api.OK
}
