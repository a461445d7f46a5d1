package velocity_test

import (
	"math"
	"testing"

	"moveout/api"
	"moveout/velocity"
)

// P6.4: CheckPicks.
func TestCheckPicks(t *testing.T) {
	for _, l := range [][]velocity.Pick{nil, {}, rising(1), rising(64), {pick(1, 1, 0), pick(1024, 1000000000, 1000000000)}, {pick(5, 9, 0), pick(6, 2, 30)}} {
		same(t, "CheckPicks", velocity.CheckPicks(l), api.OK)
	}
	for _, x := range badPickLists() {
		same(t, "CheckPicks of "+x.what, velocity.CheckPicks(x.l), x.e)
	}
}

// P6.4: Picks.
func TestPicks(t *testing.T) {
	every := velocity.Setting{Fan: ints(3, 5, 1000000000), Every: 1}
	for _, x := range []struct {
		x    velocity.Setting
		path []int
		e    int
		want []velocity.Pick
	}{
		{settingX(), ints(0, 1), 1, []velocity.Pick{pick(2, 4, 1)}}, {settingX(), ints(0, 1, 0), 3, []velocity.Pick{pick(2, 4, 3), pick(4, 1, 3)}}, {settingX(), ints(1), 3, nil}, {settingX(), nil, 0, nil}, {every, ints(0, 2, 1, 0), 1000000000, []velocity.Pick{pick(1, 1000000000, 1000000000), pick(2, 5, 1000000000), pick(3, 3, 1000000000)}},
		{velocity.Setting{Fan: ints(7), Every: 1024}, ints(0, 0), 0, []velocity.Pick{pick(1024, 7, 0)}}, {velocity.Setting{Fan: ints(7), Every: 512}, ints(0, 0, 0), 0, []velocity.Pick{pick(512, 7, 0), pick(1024, 7, 0)}}, {velocity.Setting{Fan: ints(7), Every: 1024}, ints(0), 0, nil},
	} {
		l, e := velocity.Picks(x.x, x.path, x.e)
		ok(t, "Picks", e)
		same(t, "Picks", l, x.want)
	}
	l, e := velocity.Picks(velocity.Setting{Fan: ints(7), Every: 16}, make([]int, 64), 0)
	ok(t, "Picks", e)
	same(t, "Picks of 64 times", []any{len(l), l[62], velocity.CheckPicks(l)}, []any{63, pick(1008, 7, 0), api.OK})
}

// P6.4: the errors of Picks.
func TestPicksErrors(t *testing.T) {
	for _, x := range badSettings() {
		l, e := velocity.Picks(x.x, ints(-1), -1)
		fails(t, "Picks by "+x.what, e, x.e, l)
	}
	for _, n := range badErrors {
		for _, path := range [][]int{nil, ints(0, 1), ints(9), make([]int, 65)} {
			l, e := velocity.Picks(settingX(), path, n)
			fails(t, "Picks with a bad error", e, api.ErrRange, l)
		}
	}
	late := velocity.Setting{Fan: ints(1), Every: 600}
	for _, x := range []struct {
		x    velocity.Setting
		path []int
		e    api.Errno
	}{
		{settingX(), make([]int, 65), api.ErrMany}, {settingX(), append(ints(9), make([]int, 64)...), api.ErrMany}, {late, make([]int, 65), api.ErrMany},
		{settingX(), ints(2), api.ErrUnknown}, {settingX(), ints(0, -1), api.ErrUnknown}, {settingX(), ints(0, math.MaxInt), api.ErrUnknown}, {settingX(), ints(math.MinInt, 0), api.ErrUnknown}, {late, ints(0, 0, 1), api.ErrUnknown},
		{late, ints(0, 0, 0), api.ErrRange}, {velocity.Setting{Fan: ints(1), Every: 513}, ints(0, 0, 0), api.ErrRange}, {velocity.Setting{Fan: ints(1), Every: 1024}, make([]int, 64), api.ErrRange}, {velocity.Setting{Fan: ints(1), Every: 17}, make([]int, 62), api.ErrRange},
	} {
		l, e := velocity.Picks(x.x, x.path, 1)
		fails(t, "Picks of a bad path", e, x.e, l)
	}
}
