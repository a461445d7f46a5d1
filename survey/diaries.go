package survey

import (
	"moveout/api"
	"moveout/common"
)

// cause returns the cause of a tick in the diary.
func (s state) cause(tick int, shares, weather []stretch) string {
	switch {
	case isIn(tick, weather):
		return causeWeather
	case !isIn(tick, shares):
		return causeShare
	case s.isSilent():
		return causeAnimal
	}
	return causeShoot
}

// Diary returns entries for all ticks, from weather, shares and levels.
func Diary(v Vessel, w Watch, l []Sighting, shares, weather []api.Span) ([]Entry, api.Errno) {
	if e := common.First(checkWatched(v, w, l), checkSpans(shares), checkSpans(weather)); e != api.OK {
		return nil, e
	}
	good, bad := stretches(shares), stretches(weather)
	words := make([]string, v.Ticks)
	for tick, s := range states(v, w, l) {
		words[tick] = s.cause(tick, good, bad)
	}
	diary := common.Each(runs(words), func(x api.Span) Entry { return Entry{Span: x, Cause: words[x.From]} })
	if len(diary) > MaxEntries {
		return nil, api.ErrMany
	}
	return diary, api.OK
}
