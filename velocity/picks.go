package velocity

import (
	"cmp"

	"moveout/api"
	"moveout/common"
)

// field is an integer of a pick: its range, and where it stands.
type field struct {
	low  int
	high int
	at   func(p *Pick) *int
}

// fields are the integers of a pick, in the order in which they are checked, printed and parsed.
func fields() []field {
	return []field{
		{low: 1, high: api.MaxSamples, at: func(p *Pick) *int { return &p.Time }},
		{low: 1, high: MaxVelocity, at: func(p *Pick) *int { return &p.Square }},
		{low: 0, high: MaxVelocity, at: func(p *Pick) *int { return &p.Error }},
	}
}

// check returns the first error of a pick, or OK.
func (p Pick) check() api.Errno {
	return common.FirstOf(fields(), func(f field) api.Errno { return common.CheckRange(*f.at(&p), f.low, f.high) })
}

// compare compares the times of two picks.
func (p Pick) compare(q Pick) int {
	return cmp.Compare(p.Time, q.Time)
}

// CheckPicks returns the first error of picks, or OK.
func CheckPicks(l []Pick) api.Errno {
	if len(l) > MaxPicks {
		return api.ErrMany
	}
	return common.CheckAscending(l, Pick.compare, Pick.check)
}

// Picks returns the picks of a path.
func Picks(x Setting, path []int, e int) ([]Pick, api.Errno) {
	if e := common.First(CheckSetting(x), common.CheckRange(e, 0, MaxVelocity)); e != api.OK {
		return nil, e
	}
	if len(path) > MaxTimes {
		return nil, api.ErrMany
	}
	squares, unknown := x.squares(path)
	if unknown != api.OK {
		return nil, unknown
	}
	if (len(path)-1)*x.Every > api.MaxSamples {
		return nil, api.ErrRange
	}
	var l []Pick
	for i, v := range squares {
		// At the time 0 there is no pick.
		if i > 0 {
			l = append(l, Pick{Time: i * x.Every, Square: v, Error: e})
		}
	}
	return l, api.OK
}
