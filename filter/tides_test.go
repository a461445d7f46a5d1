package filter_test

import (
	"math"
	"testing"

	"moveout/api"
	"moveout/filter"
	"moveout/trace"
)

// tide returns a row of a table of tides.
func tide(tick, height int) filter.Tide {
	return filter.Tide{Tick: tick, Height: height}
}

// risingTides returns a table of rows with the ticks 0, 1, 2 ..
func risingTides(rows int) []filter.Tide {
	var l []filter.Tide
	for i := range rows {
		l = append(l, tide(i, i))
	}
	return l
}

// badTides is a table of tides that is none, with its error.
type badTides struct {
	what string
	l    []filter.Tide
	e    api.Errno
}

// badTables returns tables with each error of CheckTides, and with two where their order matters.
func badTables() []badTides {
	return []badTides{
		{"nil", nil, api.ErrEmpty},
		{"no rows", []filter.Tide{}, api.ErrEmpty},
		{"17 rows", risingTides(17), api.ErrMany},
		{"17 rows, the first one bad", append([]filter.Tide{tide(-1, 0)}, risingTides(16)...), api.ErrMany},
		{"a tick below 0", []filter.Tide{tide(-1, 0)}, api.ErrRange},
		{"a tick above", []filter.Tide{tide(0, 0), tide(100001, 0)}, api.ErrRange},
		{"the least tick", []filter.Tide{tide(math.MinInt, 0)}, api.ErrRange},
		{"the greatest tick", []filter.Tide{tide(5, 0), tide(math.MaxInt, 0)}, api.ErrRange},
		{"a height above", []filter.Tide{tide(5, 65)}, api.ErrRange},
		{"a height below", []filter.Tide{tide(5, 0), tide(6, -65)}, api.ErrRange},
		{"the least height", []filter.Tide{tide(5, math.MinInt)}, api.ErrRange},
		{"the greatest height", []filter.Tide{tide(5, math.MaxInt)}, api.ErrRange},
		{"a tick twice", []filter.Tide{tide(5, 0), tide(5, 1)}, api.ErrOrder},
		{"the same row twice", []filter.Tide{tide(5, 1), tide(5, 1)}, api.ErrOrder},
		{"a tick before", []filter.Tide{tide(5, 0), tide(6, 0), tide(4, 0)}, api.ErrOrder},
		{"a tick before, above the first one", []filter.Tide{tide(1, 0), tide(6, 0), tide(4, 0)}, api.ErrOrder},
		{"a height before the order", []filter.Tide{tide(5, 0), tide(4, 65)}, api.ErrRange},
		{"a tick below 0 before the order", []filter.Tide{tide(5, 0), tide(-1, 0)}, api.ErrRange},
		{"an order before the next height", []filter.Tide{tide(5, 0), tide(4, 0), tide(6, 65)}, api.ErrOrder},
		{"a height before the next order", []filter.Tide{tide(5, 65), tide(4, 0)}, api.ErrRange},
	}
}

// P5.4: CheckTides.
func TestCheckTides(t *testing.T) {
	for _, l := range [][]filter.Tide{{tide(0, 0)}, {tide(100000, 64)}, {tide(0, -64), tide(100000, 64)}, risingTides(16), {tide(5, 1), tide(6, 1), tide(7, -3)}} {
		same(t, "CheckTides", filter.CheckTides(l), api.OK)
	}
	for _, x := range badTables() {
		same(t, "CheckTides of "+x.what, filter.CheckTides(x.l), x.e)
	}
}

// P5.4: Level.
func TestLevel(t *testing.T) {
	two := []filter.Tide{tide(10, 0), tide(20, 3)}
	three := []filter.Tide{tide(1, 5), tide(4, -2), tide(100000, 64)}
	for _, x := range []struct {
		l    []filter.Tide
		tick int
		want api.Ratio
	}{
		{two, 15, api.Ratio{Num: 3, Den: 2}}, {two, 5, api.Ratio{Num: 0, Den: 1}}, {two, 0, api.Ratio{Num: 0, Den: 1}}, {two, 10, api.Ratio{Num: 0, Den: 1}}, {two, 11, api.Ratio{Num: 3, Den: 10}}, {two, 19, api.Ratio{Num: 27, Den: 10}}, {two, 20, api.Ratio{Num: 3, Den: 1}}, {two, 21, api.Ratio{Num: 3, Den: 1}}, {two, 99, api.Ratio{Num: 3, Den: 1}}, {two, 100000, api.Ratio{Num: 3, Den: 1}},
		{three, 0, api.Ratio{Num: 5, Den: 1}}, {three, 1, api.Ratio{Num: 5, Den: 1}}, {three, 2, api.Ratio{Num: 8, Den: 3}}, {three, 3, api.Ratio{Num: 1, Den: 3}}, {three, 4, api.Ratio{Num: -2, Den: 1}}, {three, 5, api.Ratio{Num: -2*99996 + 66, Den: 99996}}, {three, 100000, api.Ratio{Num: 64, Den: 1}},
		{[]filter.Tide{tide(7, -9)}, 0, api.Ratio{Num: -9, Den: 1}}, {[]filter.Tide{tide(7, -9)}, 7, api.Ratio{Num: -9, Den: 1}}, {[]filter.Tide{tide(7, -9)}, 8, api.Ratio{Num: -9, Den: 1}}, {[]filter.Tide{tide(0, -64), tide(100000, 64)}, 50000, api.Ratio{Num: 0, Den: 1}},
	} {
		want := ratio(x.want.Num, x.want.Den)
		got, e := filter.Level(x.l, x.tick)
		ok(t, "Level", e)
		same(t, "Level", []any{x.tick, got}, []any{x.tick, api.Ratio{Num: int(want.Num().Int64()), Den: int(want.Denom().Int64())}})
	}
	r := random(10)
	for range 200 {
		l := r.tides(16, 9)
		for tick := range l[len(l)-1].Tick + 3 {
			want := levelOf(l, tick)
			got, e := filter.Level(l, tick)
			ok(t, "Level", e)
			same(t, "Level", []any{l, tick, got}, []any{l, tick, api.Ratio{Num: int(want.Num().Int64()), Den: int(want.Denom().Int64())}})
		}
	}
	for _, tick := range []int{-1, 100001, math.MinInt, math.MaxInt} {
		got, e := filter.Level(two, tick)
		fails(t, "Level at a bad tick", got, e, api.ErrRange)
	}
	for _, x := range badTables() {
		for _, tick := range []int{5, -1} {
			got, e := filter.Level(x.l, tick)
			fails(t, "Level of "+x.what, got, e, x.e)
		}
	}
}

// P5.4: Corrected.
func TestCorrected(t *testing.T) {
	a, b := []float32{1, 2, 3}, []float32{4, 5, 6}
	for _, x := range []struct {
		l            []filter.Tide
		wantA, wantB []float32
	}{
		// the ticks are 15 and 99; 3/2 is rounded to 2, -3/2 to -1
		{[]filter.Tide{tide(10, 0), tide(20, 3)}, []float32{3, 0, 0}, []float32{0, 0, 0}},
		{[]filter.Tide{tide(10, 0), tide(20, -3), tide(99, 1)}, []float32{0, 1, 2}, []float32{5, 6, 0}},
		{[]filter.Tide{tide(10, 0), tide(20, 1), tide(98, -2)}, []float32{2, 3, 0}, []float32{0, 0, 4}},
		{[]filter.Tide{tide(10, 0), tide(20, -1)}, []float32{1, 2, 3}, []float32{0, 4, 5}},
		{[]filter.Tide{tide(0, 0)}, a, b}, {[]filter.Tide{tide(0, 64)}, []float32{0, 0, 0}, []float32{0, 0, 0}}, {[]filter.Tide{tide(100000, -64)}, []float32{0, 0, 0}, []float32{0, 0, 0}}, {[]filter.Tide{tide(50, 2)}, []float32{3, 0, 0}, []float32{6, 0, 0}},
	} {
		s, e := filter.Corrected(shot(a, b), x.l)
		ok(t, "Corrected", e)
		same(t, "Corrected", s, shot(x.wantA, x.wantB))
	}
	long := make([]float32, 1024)
	long[64], long[959] = 1024, -1024
	s, e := filter.Corrected(shot(long, long), []filter.Tide{tide(0, 64)})
	ok(t, "Corrected", e)
	same(t, "Corrected by 64", []float32{s.Traces[0].Samples[0], s.Traces[2].Samples[895]}, []float32{1024, -1024})
	s, e = filter.Corrected(shot(long, long), []filter.Tide{tide(0, -64)})
	ok(t, "Corrected", e)
	same(t, "Corrected by -64", []float32{s.Traces[0].Samples[128], s.Traces[2].Samples[1023]}, []float32{1024, -1024})
	for _, s := range []trace.Shot{shot(nil, nil), {Name: "holes", Traces: []trace.Trace{{Hole: true}, {Hole: true}}}} {
		got, e := filter.Corrected(s, risingTides(3))
		ok(t, "Corrected without samples", e)
		same(t, "Corrected without samples", got, s)
	}
}

// P5.4: Corrected follows its definition.
func TestCorrectedByDefinition(t *testing.T) {
	r := random(11)
	for range 300 {
		width := r.below(12)
		s, l := r.shot(width, 16384), r.tides(8, 20)
		want := clone(s)
		for _, x := range want.Traces {
			old := integers(x.Samples)
			level := roundedOf(levelOf(l, x.Header[4]))
			for i := range x.Samples {
				x.Samples[i] = float32(at(old, i+level)) / 16
			}
		}
		got, e := filter.Corrected(s, l)
		ok(t, "Corrected", e)
		same(t, "Corrected", got, want)
	}
}

// P5.4: Each.
func TestEach(t *testing.T) {
	s, e := filter.Each(shot([]float32{1, 2, 3}, []float32{4, 0, -5}), []int{1, -1})
	ok(t, "Each", e)
	same(t, "Each", s, shot([]float32{1, 1, 1}, []float32{4, -4, -5}))
	for _, s := range []trace.Shot{shot(nil, nil), {Name: "holes", Traces: []trace.Trace{{Hole: true}, {Hole: true}}}} {
		got, e := filter.Each(s, []int{2})
		ok(t, "Each without samples", e)
		same(t, "Each without samples", got, s)
	}
	for _, x := range [][2][]float32{{{1, 2}, {3, 513}}, {{-513, 2}, {3, 4}}, {{1, 2}, {1024, 0}}} {
		s, e := filter.Each(shot(x[0], x[1]), []int{2})
		fails(t, "Each of large numbers", s, e, api.ErrLarge)
	}
	r := random(12)
	for range 200 {
		s, taps := r.shot(r.below(12), 120), r.taps(16)
		want := clone(s)
		for i := range want.Traces {
			want.Traces[i].Samples = samples(appliedOf(taps, integers(s.Traces[i].Samples))...)
		}
		got, e := filter.Each(s, taps)
		ok(t, "Each", e)
		same(t, "Each", got, want)
	}
}

// P5.4: Corrected and Each return the error of the shot, then that of the tides or the taps.
func TestErrorsOfShots(t *testing.T) {
	for _, x := range badShots() {
		for _, l := range [][]filter.Tide{risingTides(2), nil, {tide(0, 65)}} {
			s, e := filter.Corrected(x.s, l)
			fails(t, "Corrected of "+x.what, s, e, x.e)
		}
		for _, taps := range [][]int{{1}, {0}, nil} {
			s, e := filter.Each(x.s, taps)
			fails(t, "Each of "+x.what, s, e, x.e)
		}
	}
	good := shot([]float32{1024}, []float32{1024})
	for _, x := range badTables() {
		s, e := filter.Corrected(good, x.l)
		fails(t, "Corrected by "+x.what, s, e, x.e)
	}
	for _, x := range badTapLists() {
		s, e := filter.Each(good, x.taps)
		fails(t, "Each of "+x.what, s, e, x.e)
	}
}
