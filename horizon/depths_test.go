package horizon_test

import (
	"math"
	"slices"
	"testing"

	"moveout/api"
	"moveout/horizon"
)

// P8.3: Depths.
func TestDepths(t *testing.T) {
	for _, x := range []struct {
		l     []horizon.Horizon
		v     []api.Interval
		place int
		want  []api.Interval
	}{
		{two(), speeds(), 2, []api.Interval{span(18, 33), span(62, 101)}}, {two(), speeds(), 0, []api.Interval{span(18, 33), span(46, 85)}}, {two(), speeds(), 4, []api.Interval{span(18, 33), span(78, 117)}}, {two()[:1], speeds()[:1], 3, []api.Interval{span(18, 33)}},
		// bands that overlap: a thickness is 0 at least
		{list(named("u", 5, 0, 10), named("w", 5, 0, 12)), speeds(), 0, []api.Interval{span(10, 45), span(10, 93)}}, {list(named("u", 5, 0, 10), named("w", 0, 0, 15)), speeds(), 0, []api.Interval{span(10, 45), span(10, 85)}}, {list(named("u", 5, 0, 10), named("w", 0, 0, 16)), speeds(), 0, []api.Interval{span(10, 45), span(14, 89)}},
		// one that is quite above the one before it
		{list(named("u", 1, 0, 50), named("w", 1, 0, 10)), speeds(), 0, []api.Interval{span(98, 153), span(98, 153)}}, {list(named("u", 1, 0, 50), named("w", 1, 0, 10), named("x", 1, 0, 60)), append(speeds(), span(1, 2)), 0, []api.Interval{span(98, 153), span(98, 153), span(146, 257)}},
		// a band that begins before 0
		{list(named("u", 5, 0, 2)), []api.Interval{span(2, 3)}, 0, []api.Interval{span(0, 21)}}, {list(named("u", 5, 0, 2), named("w", 0, 0, 9)), speeds(), 0, []api.Interval{span(0, 21), span(8, 69)}}, {list(named("u", 0, 0, 0)), []api.Interval{span(1, 1)}, 0, []api.Interval{span(0, 0)}},
		// times that are no integers
		{list(named("u", 0, 0, 0, 3, 1), named("w", 0, 0, 9, 3, 10)), []api.Interval{span(10, 10), span(1, 2)}, 1, []api.Interval{span(0, 10), span(8, 30)}},
		// the greatest depths
		{list(named("u", 1000, 255, 100000)), []api.Interval{span(1000, 1000)}, 255, []api.Interval{span(99000000, 101000000)}},
		{list(named("u", 1000, 9, 0), named("w", 1000, 9, 100000)), []api.Interval{span(1000, 1000), span(1000, 1000)}, 9, []api.Interval{span(0, 1000000), span(98000000, 103000000)}},
	} {
		got, e := horizon.Depths(x.l, x.v, x.place)
		ok(t, "Depths", e)
		same(t, "Depths", got, x.want)
	}
	for _, place := range ints(-7, 0, 255, 256, math.MinInt, math.MaxInt) {
		got, e := horizon.Depths(nil, nil, place)
		ok(t, "Depths of nothing", e)
		same(t, "Depths of nothing", got, []api.Interval(nil))
	}
}

// P8.3: depths are those of the definition.
func TestDepthsByDefinition(t *testing.T) {
	r := random(6)
	for range 500 {
		l := r.column(8)
		v, place := r.velocities(len(l)), r.below(10)
		got, e := horizon.Depths(l, v, place)
		ok(t, "Depths", e)
		same(t, "Depths", got, depthsOf(l, v, place))
	}
}

// P8.3: the errors of Depths.
func TestDepthsErrors(t *testing.T) {
	for _, x := range badLists() {
		for _, v := range [][]api.Interval{nil, slices.Repeat([]api.Interval{span(1, 1)}, len(x.l)), make([]api.Interval, len(x.l))} {
			l, e := horizon.Depths(x.l, v, 1)
			fails(t, "Depths of "+x.what, e, x.e, l)
		}
	}
	for _, x := range badSpeedsList() {
		for _, place := range ints(2, 5) {
			l, e := horizon.Depths(two(), x.v, place)
			fails(t, "Depths by "+x.what, e, x.e, l)
		}
	}
	l, e := horizon.Depths(nil, speeds()[:1], 0)
	fails(t, "Depths of nothing with a velocity", e, api.ErrShape, l)
	for _, place := range ints(-1, 0, 3, 4, 5, 6, 255, 256, math.MinInt, math.MaxInt) {
		l, e := horizon.Depths(three(), threeSpeeds(), place)
		fails(t, "Depths beside a horizon", e, api.ErrSpan, l)
	}
	for _, place := range ints(1, 2) {
		_, e := horizon.Depths(three(), threeSpeeds(), place)
		ok(t, "Depths at common places", e)
	}
}
