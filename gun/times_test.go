package gun_test

import (
	"math"
	"slices"
	"testing"

	"moveout/api"
	"moveout/gun"
)

func timing(name string, tick int) gun.Timing {
	return gun.Timing{Gun: name, Tick: tick}
}

// badTimingList is a list that is no timings of the string S, with its error.
type badTimingList struct {
	l []gun.Timing
	e api.Errno
}

// badTimings returns lists with each error of timings, and with two where their order matters.
func badTimings() []badTimingList {
	l := []badTimingList{
		{nil, api.ErrOpen}, {[]gun.Timing{}, api.ErrOpen}, {[]gun.Timing{timing("a", 0)}, api.ErrOpen}, {[]gun.Timing{timing("b", 100000)}, api.ErrOpen},
		{[]gun.Timing{timing("c", 0)}, api.ErrUnknown}, {[]gun.Timing{timing("c", -1)}, api.ErrUnknown}, {[]gun.Timing{timing("", 0)}, api.ErrUnknown}, {[]gun.Timing{timing("a", 0), timing("b", 0), timing("c", 0)}, api.ErrUnknown}, {[]gun.Timing{timing("c", 0), timing("c", 0)}, api.ErrUnknown},
		{[]gun.Timing{timing("a", 0), timing("a", 0)}, api.ErrTwice}, {[]gun.Timing{timing("a", 0), timing("a", -1)}, api.ErrTwice}, {[]gun.Timing{timing("b", 0), timing("a", 0), timing("b", 0)}, api.ErrTwice},
		{[]gun.Timing{timing("a", -1), timing("a", 0)}, api.ErrRange}, {[]gun.Timing{timing("a", 100001), timing("c", 0)}, api.ErrRange}, {[]gun.Timing{timing("a", -1)}, api.ErrRange},
		{[]gun.Timing{timing("a", 0), timing("c", 0), timing("b", -1)}, api.ErrUnknown},
	}
	for _, tick := range []int{-1, 100001, math.MinInt, math.MaxInt} {
		l = append(l, badTimingList{[]gun.Timing{timing("a", 0), timing("b", tick)}, api.ErrRange})
	}
	return l
}

// P3.4: Misfires.
func TestMisfires(t *testing.T) {
	s := ofVolumes(1, 1, 1)
	s.Guns[0].Fires, s.Guns[1].Fires, s.Guns[2].Fires = 5, 16, 0
	for _, x := range []struct {
		a, b, c, limit int
		want           []string
	}{
		{5, 16, 0, 0, nil},
		{6, 15, 1, 0, []string{"a", "b", "c"}},
		{4, 17, 1, 0, []string{"a", "b", "c"}},
		{6, 15, 1, 1, nil},
		{7, 14, 2, 1, []string{"a", "b", "c"}},
		{3, 18, 2, 2, nil},
		{2, 18, 2, 2, []string{"a"}},
		{5, 100000, 0, 16, []string{"b"}},
		{5, 0, 16, 16, nil},
		{5, 0, 17, 16, []string{"c"}},
		{0, 0, 0, 4, []string{"a", "b"}},
	} {
		l := []gun.Timing{timing("c", x.c), timing("a", x.a), timing("b", x.b)}
		m, e := gun.Misfires(s, l, x.limit)
		ok(t, "Misfires", e)
		same(t, "Misfires", []any{x, m}, []any{x, x.want})
	}
}

// P3.4: Retimed.
func TestRetimed(t *testing.T) {
	for _, x := range []struct {
		l    []gun.Timing
		a, b int
	}{
		{[]gun.Timing{timing("b", 4), timing("a", 1)}, 1, 4},
		{[]gun.Timing{timing("a", 16), timing("b", 0)}, 16, 0},
		{[]gun.Timing{timing("a", 0), timing("b", 1)}, 0, 1},
	} {
		s, e := gun.Retimed(pair(), x.l)
		ok(t, "Retimed", e)
		same(t, "Retimed", s, changed(func(s *gun.String) { s.Guns[0].Fires, s.Guns[1].Fires = x.a, x.b }))
	}
	for _, l := range [][]gun.Timing{{timing("b", 17), timing("a", 1)}, {timing("a", 17), timing("b", 1)}, {timing("a", 100000), timing("b", 100000)}} {
		s, e := gun.Retimed(pair(), l)
		fails(t, "Retimed too late", s, e, api.ErrRange)
	}
}

// P3.4: the errors of Misfires and Retimed, in their order.
func TestTimingErrors(t *testing.T) {
	for _, x := range badStrings() {
		m, e := gun.Misfires(x.s, []gun.Timing{timing("?", -1)}, -1)
		fails(t, "Misfires of "+x.what, m, e, x.e)
		s, e := gun.Retimed(x.s, []gun.Timing{timing("?", -1)})
		fails(t, "Retimed of "+x.what, s, e, x.e)
	}
	for _, x := range badTimings() {
		m, e := gun.Misfires(pair(), x.l, -1)
		fails(t, "Misfires by bad timings", m, e, x.e)
		s, e := gun.Retimed(pair(), x.l)
		fails(t, "Retimed by bad timings", s, e, x.e)
	}
	// the ticks of all timings are asked before those that no string has
	s, e := gun.Retimed(pair(), []gun.Timing{timing("a", 17)})
	fails(t, "Retimed too late without a timing", s, e, api.ErrOpen)
	both := []gun.Timing{timing("a", 0), timing("b", 0)}
	for _, limit := range []int{-1, 17, math.MinInt, math.MaxInt} {
		m, e := gun.Misfires(pair(), both, limit)
		fails(t, "Misfires by a bad limit", m, e, api.ErrRange)
	}
}

// along returns the line with these parts.
func along(start, first, spacing, points, num, den int) gun.Line {
	return gun.Line{Start: start, First: first, Spacing: spacing, Points: points, Num: num, Den: den}
}

// P3.4: Ticks.
func TestTicks(t *testing.T) {
	for _, x := range []struct {
		x    gun.Line
		want []int
	}{
		{along(100, 50, 100, 3, 5, 1), []int{110, 130, 150}},
		{along(100, 50, 100, 3, 20, 3), []int{108, 123, 138}},
		{along(0, 0, 1, 1, 1, 1), []int{0}},
		{along(0, 0, 8, 3, 1, 1), []int{0, 8, 16}},
		{along(7, 1, 100000, 1, 1000, 1), []int{8}},
		{along(7, 1000, 100000, 1, 1000, 1), []int{8}},
		{along(7, 1001, 100000, 1, 1000, 1), []int{9}},
		// 7.5 ticks from one to the next: 8 and 7 in turn, but for the first two
		{along(0, 0, 15, 2, 2, 1), []int{0, 8}},
		{along(0, 1, 17, 4, 2, 1), []int{1, 9, 18, 26}},
		{along(100000, 0, 1, 1, 1, 1000), []int{100000}},
		{along(0, 100, 1, 1, 1, 1000), []int{100000}},
		{along(0, 100000, 1, 1, 1, 1), []int{100000}},
		{along(0, 0, 100000, 2, 1000, 1000), []int{0, 100000}},
		{along(0, 0, 1, 100, 1, 1000), nil},
	} {
		l, e := gun.Ticks(x.x)
		ok(t, "Ticks", e)
		if x.want == nil {
			for i := range 100 {
				x.want = append(x.want, 1000*i)
			}
		}
		same(t, "Ticks", []any{x.x, l}, []any{x.x, x.want})
	}
	l, e := gun.Ticks(along(99000, 0, 100000, 11, 1000, 1))
	ok(t, "Ticks", e)
	same(t, "Ticks up to the last tick", l[10], 100000)
}

// P3.4: the errors of Ticks, in their order.
func TestTicksErrors(t *testing.T) {
	good := along(0, 0, 100, 2, 1, 1)
	for i, most := range []int{100000, 100000, 100000, 256, 1000, 1000} {
		least := []int{0, 0, 1, 1, 1, 1}[i]
		for _, n := range []int{least - 1, most + 1, math.MinInt, math.MaxInt} {
			x := good
			*[]*int{&x.Start, &x.First, &x.Spacing, &x.Points, &x.Num, &x.Den}[i] = n
			l, e := gun.Ticks(x)
			fails(t, "Ticks of a bad line", l, e, api.ErrRange)
		}
	}
	l, e := gun.Ticks(gun.Line{})
	fails(t, "Ticks of nothing", l, e, api.ErrRange)
	for _, x := range []gun.Line{
		along(100000, 1, 1, 1, 1000, 1), along(0, 100000, 1, 2, 1, 1), along(0, 100000, 100000, 256, 1, 1000), along(1, 100, 1, 1, 1, 1000), along(100000, 100000, 100000, 256, 1, 1000),
		// the limit is asked before the points that are too near
		along(99999, 0, 1, 3, 1, 1), along(100000, 0, 1, 256, 100, 1),
	} {
		l, e := gun.Ticks(x)
		fails(t, "Ticks behind the last one", l, e, api.ErrLarge)
	}
	for _, x := range []gun.Line{
		along(0, 0, 7, 2, 1, 1), along(0, 0, 1, 256, 1000, 1), along(0, 0, 15, 3, 2, 1), along(0, 0, 8, 256, 1000, 999), along(0, 1, 15, 2, 2, 1), along(0, 1, 15, 256, 2, 1),
		// 7, 7.25, 7.5 .. ticks behind the first one: the last two points alone are too near
		along(0, 0, 31, 5, 4, 1),
	} {
		l, e := gun.Ticks(x)
		fails(t, "Ticks of points that are too near", l, e, api.ErrRule)
	}
}

// P3.4, P3.6: the vessel has reached a point at its tick, and not before.
func TestTicksReach(t *testing.T) {
	r := random(7)
	count := map[api.Errno]int{}
	for range 3000 {
		x := along(1000*r.below(101), r.below(5000), 1+r.below(200), 1+r.below(20), 1+r.below(30), 1+r.below(30))
		want := make([]int, x.Points)
		for i := range want {
			// the first tick at which the vessel has moved as far
			for tick := 0; x.Num*tick < x.Den*(x.First+i*x.Spacing); tick++ {
				want[i] = tick + 1
			}
			want[i] += x.Start
		}
		l, e := gun.Ticks(x)
		count[e]++
		wantE := api.OK
		for i := 1; i < len(want); i++ {
			if want[i]-want[i-1] < 8 {
				wantE = api.ErrRule
			}
		}
		if slices.Max(want) > 100000 {
			wantE = api.ErrLarge
		}
		if wantE != api.OK {
			fails(t, "Ticks", l, e, wantE)
			continue
		}
		ok(t, "Ticks", e)
		same(t, "Ticks", []any{x, l}, []any{x, want})
	}
	for _, e := range []api.Errno{api.OK, api.ErrRule, api.ErrLarge} {
		if count[e] < 50 {
			t.Errorf("the result %d of Ticks was seen %d times alone", e, count[e])
		}
	}
}
