package filter

import (
	"cmp"
	"slices"

	"moveout/api"
	"moveout/common"
	"moveout/trace"
)

// headerTick is the index of the tick in a header.
const headerTick = 4

func checkTick(tick int) api.Errno {
	return common.CheckRange(tick, 0, api.MaxTime)
}

// check returns the first error of a row, or OK.
func (t Tide) check() api.Errno {
	return common.First(checkTick(t.Tick), common.CheckRange(t.Height, -MaxHeight, MaxHeight))
}

// compare compares the ticks of two rows.
func (t Tide) compare(u Tide) int {
	return cmp.Compare(t.Tick, u.Tick)
}

// CheckTides returns the first error of a table of tides, or OK.
func CheckTides(l []Tide) api.Errno {
	if e := common.CheckCount(len(l), MaxTides); e != api.OK {
		return e
	}
	return common.CheckAscending(l, Tide.compare, Tide.check)
}

// Level returns the height of the tide at a tick.
func Level(l []Tide, tick int) (api.Ratio, api.Errno) {
	if e := common.First(CheckTides(l), checkTick(tick)); e != api.OK {
		return api.Ratio{}, e
	}
	return level(l, tick), api.OK
}

func level(l []Tide, tick int) api.Ratio {
	before, after := l[0], l[len(l)-1]
search:
	for _, row := range l {
		switch {
		case row.Tick > tick:
			after = row
			break search
		default:
			before = row
		}
	}
	// Before the first row and behind the last one there is no line between two of them.
	if before == after {
		return api.Ratio{Num: before.Height, Den: 1}
	}
	ticks := after.Tick - before.Tick
	risen := (after.Height - before.Height) * (tick - before.Tick)
	return common.Lowest(api.Ratio{Num: before.Height*ticks + risen, Den: ticks})
}

// Corrected returns a shot whose traces are corrected for the tide.
func Corrected(s trace.Shot, l []Tide) (trace.Shot, api.Errno) {
	if e := common.First(trace.CheckShot(s), CheckTides(l)); e != api.OK {
		return trace.Shot{}, e
	}
	return changed(s, func(tick int, samples []int) []int {
		x := level(l, tick)
		return common.Delayed(samples, -common.Rounded(x.Num, x.Den))
	})
}

// Each returns a shot to each trace of which taps were applied.
func Each(s trace.Shot, taps []int) (trace.Shot, api.Errno) {
	if e := common.First(trace.CheckShot(s), CheckTaps(taps)); e != api.OK {
		return trace.Shot{}, e
	}
	return changed(s, func(_ int, samples []int) []int { return applied(taps, samples) })
}

// changed returns a copy of a shot in which each trace that is no hole has the integers that a function makes of its tick and its integers; or ErrLarge if one is the integer of no sample.
func changed(s trace.Shot, f func(tick int, samples []int) []int) (trace.Shot, api.Errno) {
	traces := slices.Clone(s.Traces)
	for i, t := range s.Traces {
		// A hole may hold an empty part of somebody's list, which the copy must not share.
		traces[i].Samples = nil
		if t.Hole {
			continue
		}
		l, e := common.Samples(f(t.Header[headerTick], common.Integers(t.Samples)))
		if e != api.OK {
			return trace.Shot{}, e
		}
		traces[i].Samples = l
	}
	return trace.Shot{Name: s.Name, Traces: traces}, api.OK
}
