package survey

import (
	"moveout/api"
	"moveout/common"
)

// check returns the first error of a shot of a vessel with so many ticks, or OK.
func (f Fire) check(ticks int) api.Errno {
	return common.First(common.CheckRange(f.Tick, 0, ticks-1), common.CheckRange(f.Level, 1, MaxWait+1))
}

func checkFires(l []Fire, ticks int) api.Errno {
	if len(l) > MaxFires {
		return api.ErrMany
	}
	return common.FirstOf(l, func(f Fire) api.Errno { return f.check(ticks) })
}

// permit returns OK if a state permits a level, or ErrInside if an animal may be inside, otherwise ErrRule.
func (s state) permit(level int) api.Errno {
	switch {
	case level <= s.level():
		return api.OK
	case s.isInside():
		return api.ErrInside
	}
	return api.ErrRule
}

// CheckFires returns OK for shots that are all permitted.
func CheckFires(v Vessel, w Watch, l []Sighting, fires []Fire) api.Errno {
	if e := common.First(checkWatched(v, w, l), checkFires(fires, v.Ticks)); e != api.OK {
		return e
	}
	at := states(v, w, l)
	return common.FirstOf(fires, func(f Fire) api.Errno { return at[f.Tick].permit(f.Level) })
}

// Window returns the first tick from which so many ticks have the full level within shares.
func Window(v Vessel, w Watch, l []Sighting, shares []api.Span, ticks int) (int, api.Errno) {
	if e := common.First(checkWatched(v, w, l), checkSpans(shares), common.CheckRange(ticks, 1, MaxTicks)); e != api.OK {
		return 0, e
	}
	parts, found := stretches(shares), false
	// first is where the window begins, if all ticks from it on are good.
	first := 0
search:
	for tick, s := range states(v, w, l) {
		switch {
		case !s.isFull() || !isIn(tick, parts):
			first = tick + 1
		case tick+1-first == ticks:
			found = true
			break search
		}
	}
	if !found {
		return 0, api.ErrNone
	}
	return first, api.OK
}
