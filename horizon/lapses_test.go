package horizon_test

import (
	"testing"

	"moveout/api"
	"moveout/horizon"
)

// P8.5: Compare.
func TestCompare(t *testing.T) {
	for _, x := range []struct {
		a, b  horizon.Horizon
		shift int
		want  []int
	}{
		{top(), base(), 0, ints(3, 5, 6)}, {top(), base(), -1, ints(2, 3, 5, 6)}, {top(), base(), 1, ints(3, 5, 6)}, {top(), base(), 2, ints(3, 5, 6)}, {top(), base(), 4, ints(1, 4, 5, 6)}, {top(), base(), 6, ints(1, 2, 4, 5, 6)}, {top(), base(), 1000, ints(1, 2, 3, 4, 5, 6)}, {top(), base(), -1000, ints(1, 2, 3, 4, 5, 6)},
		{base(), top(), 0, ints(3, 5, 6)}, {base(), top(), 1, ints(2, 3, 5, 6)}, {top(), top(), 0, nil}, {top(), top(), 4, nil}, {top(), top(), 5, ints(0, 3, 6)}, {top(), top(), -5, ints(0, 3, 6)}, {top(), top(), 6, ints(0, 1, 2, 3, 4, 5, 6)},
		// one integer in common is enough
		{named("a", 3, 0, 10), named("b", 4, 0, 17), 0, nil}, {named("a", 3, 0, 10), named("b", 4, 0, 18), 0, ints(0)}, {named("a", 3, 0, 10), named("b", 4, 0, 18), -1, nil}, {named("a", 3, 0, 10), named("b", 4, 0, 3), 0, nil}, {named("a", 3, 0, 10), named("b", 4, 0, 2), 0, ints(0)}, {named("a", 3, 0, 10), named("b", 4, 0, 2), 1, nil},
		// only at common places; the shift moves the second one
		{named("a", 0, 0, 1, 5, 1), named("b", 0, 3, 9, 8, 9), 0, ints(3, 4, 5)}, {named("a", 0, 0, 1, 5, 1), named("b", 0, 3, 9, 8, 9), -8, nil}, {named("b", 0, 3, 9, 8, 9), named("a", 0, 0, 1, 5, 1), 8, nil}, {named("a", 0, 255, 0), named("b", 0, 255, 1000), -1000, nil}, {named("a", 1000, 255, 0), named("b", 1000, 255, 3000), -1000, nil}, {named("a", 1000, 255, 0), named("b", 1000, 255, 3001), -1000, ints(255)},
		// bands before 0
		{named("a", 5, 0, 0), named("b", 0, 0, 0), -5, nil}, {named("a", 5, 0, 0), named("b", 0, 0, 0), -6, ints(0)},
	} {
		l, e := horizon.Compare(x.a, x.b, x.shift)
		ok(t, "Compare", e)
		same(t, "Compare", l, x.want)
	}
}

// P8.5: Match.
func TestMatch(t *testing.T) {
	for _, x := range []struct {
		a, b  horizon.Horizon
		most  int
		shift int
		want  []int
	}{
		{top(), base(), 10, 0, ints(3, 5, 6)}, {top(), base(), 0, 0, ints(3, 5, 6)}, {top(), base(), 1000, 0, ints(3, 5, 6)}, {top(), top(), 1000, 0, nil},
		{named("a", 0, 0, 10, 1, 10), named("b", 1, 0, 13, 1, 13), 5, -2, nil}, {named("a", 0, 0, 10, 1, 10), named("b", 1, 0, 13, 1, 13), 2, -2, nil}, {named("a", 0, 0, 10, 1, 10), named("b", 1, 0, 13, 1, 13), 1, 0, ints(0, 1)}, {named("b", 1, 0, 13, 1, 13), named("a", 0, 0, 10, 1, 10), 5, 2, nil},
		// of two with as few differences the lesser one in absolute value, then the lesser one
		{named("a", 0, 0, 10, 1, 12), named("b", 0, 0, 11, 1, 11), 3, -1, ints(1)}, {named("a", 0, 0, 10, 1, 13), named("b", 0, 0, 11, 1, 11), 3, -1, ints(1)}, {named("a", 0, 0, 9, 1, 12), named("b", 0, 0, 11, 1, 11), 3, 1, ints(0)}, {named("a", 0, 0, 9, 1, 13), named("b", 0, 0, 11, 1, 11), 1, 0, ints(0, 1)}, {named("a", 0, 0, 9, 1, 13), named("b", 0, 0, 11, 1, 11), 2, -2, ints(1)},
		// fewer differences come first
		{named("a", 0, 0, 10, 1, 10, 2, 20, 3, 20, 4, 20), named("b", 0, 0, 11, 1, 11, 2, 25, 3, 25, 4, 25), 9, -5, ints(0, 1)}, {named("a", 0, 0, 10, 1, 10, 2, 20, 3, 20, 4, 20), named("b", 0, 0, 11, 1, 11, 2, 25, 3, 25, 4, 25), 4, -1, ints(2, 3, 4)},
		{named("a", 0, 0, 0), named("b", 0, 0, 1000), 1000, -1000, nil}, {named("a", 0, 0, 0), named("b", 0, 0, 1000), 999, 0, ints(0)}, {named("a", 0, 0, 1000), named("b", 0, 0, 0), 1000, 1000, nil}, {named("a", 0, 0, 100000), named("b", 0, 0, 0), 1000, 0, ints(0)},
	} {
		shift, l, e := horizon.Match(x.a, x.b, x.most)
		ok(t, "Match", e)
		same(t, "Match", []any{shift, l}, []any{x.shift, x.want})
	}
	shift, l, e := horizon.Match(full("a", 0, 5), full("b", 0, 500), 1000)
	ok(t, "Match of 256 places", e)
	same(t, "Match of 256 places", []any{shift, l}, []any{-495, []int(nil)})
}

// P8.5: Common.
func TestCommon(t *testing.T) {
	wide := base()
	wide.Error = 20
	for _, x := range []struct {
		a, b  horizon.Horizon
		shift int
		want  []api.Interval
	}{
		{top(), wide, 0, []api.Interval{span(101, 106), span(104, 109), span(108, 112), span(101, 106), span(94, 99), span(88, 92)}}, {wide, top(), 0, []api.Interval{span(101, 106), span(104, 109), span(108, 112), span(101, 106), span(94, 99), span(88, 92)}}, {top(), wide, 6, []api.Interval{span(101, 106), span(104, 109), span(108, 112), span(101, 106), span(94, 99), span(90, 92)}}, {wide, top(), 6, []api.Interval{span(107, 112), span(110, 115), span(114, 118), span(107, 112), span(100, 105), span(94, 98)}}, {top(), wide, 8, []api.Interval{span(101, 106), span(104, 109), span(108, 112), span(101, 106), span(94, 99), span(92, 92)}},
		{named("a", 1, 0, 10, 1, 11), named("b", 1, 0, 10, 1, 10), 1, []api.Interval{span(10, 11), span(10, 12)}}, {named("a", 0, 4, 7), named("b", 0, 4, 7), 0, []api.Interval{span(7, 7)}}, {named("a", 9, 4, 7), named("b", 9, 4, 7), 0, []api.Interval{span(-2, 16)}}, {named("a", 1000, 4, 0), named("b", 0, 3, 0, 5, 1), -1000, []api.Interval{span(-1000, -999)}},
		{named("a", 3, 0, 10), named("b", 4, 0, 17), 0, []api.Interval{span(13, 13)}}, {named("a", 3, 0, 10), named("b", 4, 0, 3), 0, []api.Interval{span(7, 7)}},
	} {
		l, e := horizon.Common(x.a, x.b, x.shift)
		ok(t, "Common", e)
		same(t, "Common", l, x.want)
	}
}

// P8.5: Common without a ground at one place, or at all.
func TestCommonWithoutGround(t *testing.T) {
	wide := base()
	wide.Error = 20
	for _, x := range []struct {
		a, b  horizon.Horizon
		shift int
	}{
		{top(), base(), 0}, {top(), wide, -30}, {top(), wide, 9}, {wide, top(), -9}, {named("a", 3, 0, 10), named("b", 4, 0, 18), 0}, {named("a", 3, 0, 10), named("b", 4, 0, 2), 0}, {top(), wide, 1000},
		// an empty interval that is 1 and 0 if it is read as one
		{named("a", 0, 0, 1), named("b", 0, 0, 0), 0}, {named("a", 0, 0, 0), named("b", 0, 0, 1), 0},
	} {
		l, e := horizon.Common(x.a, x.b, x.shift)
		fails(t, "Common", e, api.ErrInfeasible, l)
	}
}

// P8.5: differences, matches and grounds are those of the definitions.
func TestLapsesByDefinition(t *testing.T) {
	r := random(9)
	seen := map[bool]int{}
	for range 500 {
		a, b := r.horizon("a", 5, 0, 30), r.horizon("b", 5, 0, 30)
		if len(commonOf(a, b)) == 0 {
			continue
		}
		shift, most := r.integer(12), r.below(20)
		l, e := horizon.Compare(a, b, shift)
		ok(t, "Compare", e)
		same(t, "Compare", l, differOf(a, b, shift))
		got, places, e := horizon.Match(a, b, most)
		ok(t, "Match", e)
		want := matchOf(a, b, most)
		same(t, "Match", []any{got, places}, []any{want, differOf(a, b, want)})
		grounds, e := horizon.Common(a, b, shift)
		seen[len(l) == 0]++
		if len(l) > 0 {
			fails(t, "Common", e, api.ErrInfeasible, grounds)
			continue
		}
		ok(t, "Common", e)
		var wanted []api.Interval
		for _, ground := range groundOf(a, b, shift) {
			wanted = append(wanted, span(ground[0], ground[len(ground)-1]))
		}
		same(t, "Common", grounds, wanted)
	}
	if seen[true] < 20 || seen[false] < 20 {
		t.Errorf("horizons with and without a ground: %v", seen)
	}
}

// P8.5: the errors of Compare, Match and Common.
func TestLapsesErrors(t *testing.T) {
	check := func(what string, a, b horizon.Horizon, n int, want api.Errno) {
		t.Helper()
		l, e := horizon.Compare(a, b, n)
		fails(t, "Compare of "+what, e, want, l)
		shift, l, e := horizon.Match(a, b, n)
		fails(t, "Match of "+what, e, want, shift, l)
		grounds, e := horizon.Common(a, b, n)
		fails(t, "Common of "+what, e, want, grounds)
	}
	far := named("far", 0, 7, 1)
	for _, x := range badHorizons() {
		for _, n := range ints(0, 1001) {
			check(x.what, x.h, horizon.Horizon{}, n, x.e)
			check(x.what, x.h, top(), n, x.e)
			check(x.what, top(), x.h, n, x.e)
			check(x.what, far, x.h, n, x.e)
		}
	}
	for _, n := range badShifts {
		check("a bad shift", top(), base(), n, api.ErrRange)
		check("a bad shift without a common place", top(), far, n, api.ErrRange)
	}
	for _, n := range ints(0, 1, 1000) {
		check("no common place", top(), far, n, api.ErrNone)
		check("no common place", far, top(), n, api.ErrNone)
	}
	for _, h := range list(base(), far) {
		shift, l, e := horizon.Match(top(), h, -1)
		fails(t, "Match within less than 0", e, api.ErrRange, shift, l)
	}
	l, e := horizon.Compare(top(), far, -1000)
	fails(t, "Compare without a common place", e, api.ErrNone, l)
	grounds, e := horizon.Common(top(), far, -1000)
	fails(t, "Common without a common place", e, api.ErrNone, grounds)
}
