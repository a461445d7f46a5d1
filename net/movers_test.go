package net_test

import (
	"math"
	"slices"
	"testing"

	"moveout/api"
	"moveout/net"
)

// adrift returns a mover whose drift in X and in Y is from low to high.
func adrift(b net.Box, xLow, xHigh, yLow, yHigh int) net.Mover {
	return net.Mover{Box: b, X: span(xLow, xHigh), Y: span(yLow, yHigh)}
}

// sailing returns a mover that is a point, and whose drift is exact.
func sailing(x, y, byX, byY int) net.Mover {
	return adrift(box(x, x, y, y), byX, byX, byY, byY)
}

// badMover is a mover that is none, with its error.
type badMover struct {
	m net.Mover
	e api.Errno
}

// badMovers returns movers with each error, and with two where their order matters.
func badMovers() []badMover {
	point := box(0, 0, 0, 0)
	l := []badMover{
		{adrift(point, -101, 0, 0, 0), api.ErrRange}, {adrift(point, 0, 101, 0, 0), api.ErrRange}, {adrift(point, 0, 0, -101, 0), api.ErrRange}, {adrift(point, 0, 0, 0, 101), api.ErrRange}, {adrift(point, 101, 0, 0, 0), api.ErrRange}, {adrift(point, 0, 0, 0, -101), api.ErrRange}, {adrift(point, math.MinInt, math.MaxInt, 0, 0), api.ErrRange}, {adrift(point, 0, 0, math.MinInt, math.MaxInt), api.ErrRange},
		{adrift(point, 1, 0, 0, 0), api.ErrOrder}, {adrift(point, 0, 0, 1, 0), api.ErrOrder}, {adrift(point, 100, -100, 0, 0), api.ErrOrder}, {adrift(point, 0, 0, -99, -100), api.ErrOrder},
		{adrift(point, 1, 0, 0, 101), api.ErrRange}, {adrift(point, 1, 0, -101, 0), api.ErrRange},
		{adrift(box(1, 0, 0, 0), 101, 101, 0, 0), api.ErrOrder}, {adrift(box(100001, 0, 0, 0), 1, 0, 0, 0), api.ErrRange},
	}
	for _, x := range badBoxes() {
		l = append(l, badMover{adrift(x.b, 0, 0, 0, 0), x.e})
	}
	return l
}

// P2.5: Drift.
func TestDrift(t *testing.T) {
	for _, x := range []struct {
		m     net.Mover
		ticks int
		want  net.Box
	}{
		{adrift(box(0, 10, 0, 10), -1, 2, 0, 0), 5, box(-5, 20, 0, 10)},
		{adrift(box(0, 10, 0, 10), -1, 2, 0, 0), 0, box(0, 10, 0, 10)},
		{adrift(box(0, 10, 0, 10), -1, 2, 0, 0), 1, box(-1, 12, 0, 10)},
		{adrift(box(1, 2, 3, 4), 5, 6, -8, -7), 3, box(16, 20, -21, -17)},
		{adrift(box(1, 2, 3, 4), -6, -5, 7, 8), 3, box(-17, -13, 24, 28)},
		{adrift(box(-100000, 100000, -100000, 100000), -100, 100, -100, 100), 1000, box(-200000, 200000, -200000, 200000)},
		{adrift(box(100000, 100000, -100000, -100000), 100, 100, -100, -100), 1000, box(200000, 200000, -200000, -200000)},
	} {
		b, e := net.Drift(x.m, x.ticks)
		ok(t, "Drift", e)
		same(t, "Drift", b, x.want)
	}
	for _, x := range badMovers() {
		b, e := net.Drift(x.m, -1)
		fails(t, "Drift of a bad mover", b, e, x.e)
		b, e = net.Drift(x.m, 1)
		fails(t, "Drift of a bad mover", b, e, x.e)
	}
	for _, ticks := range []int{-1, 1001, math.MinInt, math.MaxInt} {
		b, e := net.Drift(sailing(0, 0, 1, 1), ticks)
		fails(t, "Drift", b, e, api.ErrRange)
	}
}

// P2.5: Meeting.
func TestMeeting(t *testing.T) {
	three := []net.Mover{adrift(box(0, 10, 0, 0), 2, 2, 0, 0), adrift(box(30, 40, 0, 0), 0, 0, 0, 0), sailing(500, 0, 0, 0)}
	for _, x := range []struct {
		what          string
		l             []net.Mover
		ticks, square int
		want          [3]int
		is            bool
	}{
		{"nothing", nil, 1000, 80000000000, [3]int{}, false},
		{"one mover", three[:1], 1000, 80000000000, [3]int{}, false},
		{"the movers of the chapter", three, 10, 100, [3]int{6, 0, 1}, true},
		{"the movers of the chapter, as late as possible", three, 6, 100, [3]int{6, 0, 1}, true},
		{"the movers of the chapter, too early", three, 5, 100, [3]int{}, false},
		{"a greater square", three, 5, 101, [3]int{5, 0, 1}, true},
		{"no tick", three, 0, 400, [3]int{}, false},
		{"no tick, and near at once", three, 0, 401, [3]int{0, 0, 1}, true},
		{"the square 0", []net.Mover{sailing(0, 0, 0, 0), sailing(0, 0, 0, 0)}, 1000, 0, [3]int{}, false},
		{"the same place", []net.Mover{sailing(0, 0, 0, 0), sailing(0, 0, 0, 0)}, 1000, 1, [3]int{0, 0, 1}, true},
		{"beside each other", []net.Mover{sailing(0, 0, 0, 0), sailing(1, 0, 0, 0)}, 1000, 1, [3]int{}, false},
		{"passing by", []net.Mover{sailing(0, 0, 3, 0), sailing(30, 4, 0, 0)}, 1000, 20, [3]int{10, 0, 1}, true},
		{"passing by, looked at before", []net.Mover{sailing(0, 0, 3, 0), sailing(30, 4, 0, 0)}, 9, 20, [3]int{}, false},
		{"passing between two ticks", []net.Mover{sailing(0, 0, 100, 0), sailing(150, 0, 0, 0)}, 1000, 2500, [3]int{}, false},
		{"passing between two ticks, near enough", []net.Mover{sailing(0, 0, 100, 0), sailing(150, 0, 0, 0)}, 1000, 2501, [3]int{1, 0, 1}, true},
		{"at the last tick", []net.Mover{sailing(0, 0, 1, 0), sailing(1000, 0, 0, 0)}, 1000, 1, [3]int{1000, 0, 1}, true},
		{"before the last tick", []net.Mover{sailing(0, 0, 1, 0), sailing(1000, 0, 0, 0)}, 999, 1, [3]int{}, false},
		{"drift that is not known", []net.Mover{adrift(box(0, 0, 0, 0), -1, 1, -1, 1), sailing(-10, 10, 0, 0)}, 1000, 9, [3]int{8, 0, 1}, true},
		{"drift of both", []net.Mover{sailing(0, 0, 0, 2), adrift(box(0, 0, 100, 120), 0, 0, -3, 5)}, 1000, 1, [3]int{20, 0, 1}, true},
		{"the last two first", []net.Mover{sailing(0, 0, 1, 0), sailing(100, 0, 0, 0), sailing(103, 0, -1, 0)}, 1000, 5, [3]int{1, 1, 2}, true},
		{"three at the same tick", []net.Mover{sailing(0, 9, 0, -1), sailing(0, 0, 0, 0), sailing(0, -9, 0, 1)}, 1000, 50, [3]int{2, 0, 1}, true},
		{"the pair 0 and 2 before the pair 1 and 2", []net.Mover{sailing(0, 9, 0, 0), sailing(0, -9, 0, 0), sailing(90, 0, -10, 0)}, 1000, 82, [3]int{9, 0, 2}, true},
		{"the pair 0 and 3 before the pair 1 and 2", []net.Mover{sailing(0, 0, 0, 0), sailing(500, 0, 0, 0), sailing(510, 0, -1, 0), sailing(10, 0, -1, 0)}, 1000, 26, [3]int{5, 0, 3}, true},
		{"the pair 0 and 1 before the pair 0 and 2", []net.Mover{sailing(0, 0, 0, 0), sailing(10, 0, -1, 0), sailing(-10, 0, 1, 0)}, 1000, 26, [3]int{5, 0, 1}, true},
		{"eight movers", []net.Mover{sailing(0, 0, 0, 0), sailing(100, 0, 0, 0), sailing(200, 0, 0, 0), sailing(300, 0, 0, 0), sailing(400, 0, 0, 0), sailing(500, 0, 0, 0), sailing(600, 0, 0, 0), sailing(607, 0, -1, 0)}, 1000, 1, [3]int{7, 6, 7}, true},
		{"the ends of the sea", []net.Mover{sailing(-100000, -100000, 0, 0), sailing(100000, 100000, 0, 0)}, 1000, 80000000000, [3]int{}, false},
		{"the ends of the sea, a tick later", []net.Mover{sailing(-100000, -100000, 0, 0), sailing(100000, 100000, -1, 0)}, 1000, 80000000000, [3]int{1, 0, 1}, true},
	} {
		m, is, e := net.Meeting(x.l, x.ticks, x.square)
		ok(t, "Meeting of "+x.what, e)
		same(t, "Meeting of "+x.what, []any{m, is}, []any{x.want, x.is})
	}
}

// meetingOf follows the definition, for boxes that are small and near.
func meetingOf(l []net.Mover, ticks, square int) ([3]int, bool) {
	for tick := 0; tick <= ticks; tick++ {
		for i := range l {
			for j := i + 1; j < len(l); j++ {
				a, _ := net.Drift(l[i], tick)
				b, _ := net.Drift(l[j], tick)
				if squaresOf(a, b).Low < square {
					return [3]int{tick, i, j}, true
				}
			}
		}
	}
	return [3]int{}, false
}

// P2.5: Meeting of small movers, by the definition.
func TestMeetingSmall(t *testing.T) {
	r := random(7)
	met := 0
	for range 200 {
		var l []net.Mover
		for range 2 + r.below(3) {
			x, y := r.integer(3), r.integer(3)
			l = append(l, adrift(r.box(15, 2), x, x+r.below(2), y, y+r.below(2)))
		}
		square := 1 + r.below(30)
		want, is := meetingOf(l, 5, square)
		m, got, e := net.Meeting(l, 5, square)
		ok(t, "Meeting", e)
		same(t, "Meeting", []any{m, got}, []any{want, is})
		if is {
			met++
		}
	}
	if met < 20 || met > 180 {
		t.Errorf("%d of the lists have a meeting", met)
	}
}

// P2.5: the errors of Meeting.
func TestMeetingErrors(t *testing.T) {
	two := []net.Mover{sailing(0, 0, 0, 0), sailing(0, 0, 0, 0)}
	failing := func(what string, l []net.Mover, ticks, square int, want api.Errno) {
		t.Helper()
		m, is, e := net.Meeting(l, ticks, square)
		fails(t, "Meeting: "+what, m, e, want)
		same(t, "Meeting: "+what, is, false)
	}
	failing("nine movers", make([]net.Mover, 9), 1, 1, api.ErrMany)
	failing("nine movers before the first one", slices.Repeat([]net.Mover{{Box: box(1, 0, 0, 0)}}, 9), -1, -1, api.ErrMany)
	for _, x := range badMovers() {
		failing("a bad mover", []net.Mover{x.m}, 1, 1, x.e)
		failing("a bad mover behind another one", append(slices.Clone(two), x.m), -1, -1, x.e)
		failing("a bad mover before another one", []net.Mover{x.m, {X: span(1, 0)}}, 1, 1, x.e)
	}
	failing("the first bad mover", []net.Mover{{X: span(1, 0)}, {X: span(0, 101)}}, 1, 1, api.ErrOrder)
	for _, x := range []int{-1, 1001, math.MinInt, math.MaxInt} {
		failing("the ticks", two, x, 1, api.ErrRange)
	}
	for _, x := range []int{-1, 80000000001, math.MinInt, math.MaxInt} {
		failing("the square", two, 1, x, api.ErrRange)
		failing("the square of nothing", nil, 1, x, api.ErrRange)
	}
}
