package survey

import (
	"slices"

	"moveout/api"
	"moveout/common"
)

func checkPlace(p api.Point) api.Errno {
	return common.First(common.CheckRange(p.X, -api.MaxPlace, api.MaxPlace), common.CheckRange(p.Y, -api.MaxPlace, api.MaxPlace))
}

func checkStep(p api.Point) api.Errno {
	return common.First(common.CheckRange(p.X, -MaxSpeed, MaxSpeed), common.CheckRange(p.Y, -MaxSpeed, MaxSpeed))
}

// CheckVessel returns the first error of a vessel, or OK.
func CheckVessel(v Vessel) api.Errno {
	return common.First(checkPlace(v.Start), checkStep(v.Step), common.CheckRange(v.Ticks, 1, MaxTicks))
}

// CheckWatch returns the first error of a watch, or OK.
func CheckWatch(w Watch) api.Errno {
	return common.First(
		common.CheckRange(w.Ring, 0, MaxRing),
		common.CheckRange(w.Speed, 0, MaxSpeed),
		common.CheckRange(w.Loss, 0, MaxWait),
		common.CheckRange(w.Clear, 0, MaxWait),
		common.CheckRange(w.Soft, 0, MaxWait),
	)
}

func (s Sighting) check() api.Errno {
	return common.First(common.CheckRange(s.Tick, 0, api.MaxTime), checkPlace(s.Place))
}

// follows reports whether a sighting may follow another one.
func (s Sighting) follows(before Sighting) bool {
	return s.Tick >= before.Tick
}

// CheckSightings returns the first error of sightings, or OK.
func CheckSightings(l []Sighting) api.Errno {
	if len(l) > MaxSightings {
		return api.ErrMany
	}
	return common.CheckSuccessive(l, Sighting.follows, Sighting.check)
}

// checkWatched returns the first error of a vessel, a watch and sightings, or OK.
func checkWatched(v Vessel, w Watch, l []Sighting) api.Errno {
	return common.First(CheckVessel(v), CheckWatch(w), CheckSightings(l))
}

// at returns the place of a vessel at a tick.
func (v Vessel) at(tick int) api.Point {
	return api.Point{X: v.Start.X + tick*v.Step.X, Y: v.Start.Y + tick*v.Step.Y}
}

// reaches reports whether the animal of a sighting may be inside of the ring around a place at a tick.
func (w Watch) reaches(s Sighting, place api.Point, tick int) bool {
	age := tick - s.Tick
	if age < 0 || age > w.Loss {
		return false
	}
	// An animal that was sighted at the place itself is inside of every ring.
	if s.Place == place {
		return true
	}
	reach := w.Ring + w.Speed*age
	return common.Squared(s.Place, place) <= reach*reach
}

// state is a watch at a tick, with its quiet: 0 if an animal may be inside, otherwise for how many ticks none may have been.
type state struct {
	Watch
	quiet int
}

// next returns the state at the next tick, at which an animal may be inside or not.
func (s state) next(inside bool) state {
	if inside {
		return state{Watch: s.Watch}
	}
	return state{Watch: s.Watch, quiet: s.quiet + 1}
}

func (s state) isInside() bool {
	return s.quiet == 0
}

// full returns the full level.
func (s state) full() int {
	return s.Soft + 1
}

func (s state) level() int {
	return min(max(s.quiet-s.Clear, 0), s.full())
}

func (s state) isFull() bool {
	return s.level() == s.full()
}

func (s state) isSilent() bool {
	return s.level() == 0
}

// states returns the state of a watch at each tick of a vessel.
func states(v Vessel, w Watch, l []Sighting) []state {
	now := state{Watch: w}
	out := make([]state, v.Ticks)
	for tick := range v.Ticks {
		place := v.at(tick)
		now = now.next(slices.ContainsFunc(l, func(s Sighting) bool { return w.reaches(s, place, tick) }))
		out[tick] = now
	}
	return out
}

// Inside reports for each tick whether an animal may be inside of the ring.
func Inside(v Vessel, w Watch, l []Sighting) ([]bool, api.Errno) {
	if e := checkWatched(v, w, l); e != api.OK {
		return nil, e
	}
	return common.Each(states(v, w, l), state.isInside), api.OK
}

// Levels returns the greatest level that is permitted at each tick.
func Levels(v Vessel, w Watch, l []Sighting) ([]int, api.Errno) {
	if e := checkWatched(v, w, l); e != api.OK {
		return nil, e
	}
	return common.Each(states(v, w, l), state.level), api.OK
}

// Silent returns the spans in which no shot is permitted.
func Silent(v Vessel, w Watch, l []Sighting) ([]api.Span, api.Errno) {
	if e := checkWatched(v, w, l); e != api.OK {
		return nil, e
	}
	silent := common.Each(states(v, w, l), state.isSilent)
	return slices.DeleteFunc(runs(silent), func(x api.Span) bool { return !silent[x.From] }), api.OK
}
