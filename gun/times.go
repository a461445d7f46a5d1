package gun

import (
	"moveout/api"
	"moveout/common"
)

// checkTimings returns the first error of timings of a string, or OK.
func checkTimings(s String, l []Timing) api.Errno {
	call := rollCall(s)
	e := common.FirstOf(l, func(x Timing) api.Errno {
		return common.First(call(x.Gun), common.CheckRange(x.Tick, 0, api.MaxTime))
	})
	if e != api.OK {
		return e
	}
	// The names are different ones of the string: as many as guns are all of them.
	if len(l) < len(s.Guns) {
		return api.ErrOpen
	}
	return api.OK
}

// retimed returns a copy of a string in which the guns fire at the ticks of their timings.
func retimed(s String, l []Timing) String {
	out := String{Guns: make([]Gun, len(s.Guns))}
	copy(out.Guns, s.Guns)
	for _, x := range l {
		out.Guns[find(s.Guns, x.Gun)].Fires = x.Tick
	}
	return out
}

// Misfires returns the guns that fired too early or too late.
func Misfires(s String, l []Timing, limit int) ([]string, api.Errno) {
	if e := CheckString(s); e != api.OK {
		return nil, e
	}
	if e := common.First(checkTimings(s, l), common.CheckRange(limit, 0, MaxFire)); e != api.OK {
		return nil, e
	}
	var misfired []string
	for i, g := range retimed(s, l).Guns {
		late := g.Fires - s.Guns[i].Fires
		if max(late, -late) > limit {
			misfired = append(misfired, g.Name)
		}
	}
	return misfired, api.OK
}

// Retimed returns a string with the measured times.
func Retimed(s String, l []Timing) (String, api.Errno) {
	if e := CheckString(s); e != api.OK {
		return String{}, e
	}
	if e := checkTimings(s, l); e != api.OK {
		return String{}, e
	}
	out := retimed(s, l)
	if e := common.FirstOf(out.Guns, func(g Gun) api.Errno { return common.CheckRange(g.Fires, 0, MaxFire) }); e != api.OK {
		return String{}, e
	}
	return out, api.OK
}

// checkLine returns the first error of a line, or OK.
func checkLine(x Line) api.Errno {
	return common.First(
		common.CheckRange(x.Start, 0, api.MaxTime),
		common.CheckRange(x.First, 0, api.MaxPlace),
		common.CheckRange(x.Spacing, 1, api.MaxPlace),
		common.CheckRange(x.Points, 1, MaxPoints),
		common.CheckRange(x.Num, 1, MaxRate),
		common.CheckRange(x.Den, 1, MaxRate),
	)
}

// Ticks returns the ticks at which the points of a line are reached.
func Ticks(x Line) ([]int, api.Errno) {
	if e := checkLine(x); e != api.OK {
		return nil, e
	}
	ticks := make([]int, x.Points)
	for i := range ticks {
		ticks[i] = x.Start + ticksFor(x.First+i*x.Spacing, x)
	}
	// Later points are reached later.
	if ticks[x.Points-1] > api.MaxTime {
		return nil, api.ErrLarge
	}
	for i := range x.Points - 1 {
		if ticks[i+1]-ticks[i] < MinCycle {
			return nil, api.ErrRule
		}
	}
	return ticks, api.OK
}

// ticksFor returns the least number of ticks in which the vessel of a line moves at least so far.
func ticksFor(distance int, x Line) int {
	return (distance*x.Den + x.Num - 1) / x.Num
}
