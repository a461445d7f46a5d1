package trace_test

import (
	"math"
	"testing"

	"moveout/api"
	"moveout/trace"
)

// P1.2: CheckTrace.
func TestCheckTrace(t *testing.T) {
	for i, most := range [8]int{100000, 100000, 100000, 100000, 100000, 999999999, 999999999, 999999999} {
		least := -most
		if i == 4 {
			least = 0
		}
		for _, x := range []struct {
			n int
			e api.Errno
		}{{least, api.OK}, {most, api.OK}, {least - 1, api.ErrRange}, {most + 1, api.ErrRange}, {math.MinInt, api.ErrRange}, {math.MaxInt, api.ErrRange}} {
			for _, hole := range []bool{false, true} {
				u := trace.Trace{Hole: hole}
				u.Header[i] = x.n
				same(t, "CheckTrace of a header", []int{i, x.n, int(trace.CheckTrace(u))}, []int{i, x.n, int(x.e)})
			}
		}
	}
	for _, x := range []struct {
		what string
		u    trace.Trace
		e    api.Errno
	}{
		{"nothing", trace.Trace{}, api.OK},
		{"1024 samples", trace.Trace{Samples: make([]float32, 1024)}, api.OK},
		{"an empty hole", trace.Trace{Hole: true, Samples: []float32{}}, api.OK},
		{"a hole with a sample", trace.Trace{Hole: true, Samples: []float32{1}}, api.ErrConflict},
		{"1025 samples", trace.Trace{Samples: make([]float32, 1025)}, api.ErrMany},
		{"the header before the hole", trace.Trace{Header: [8]int{0, 0, 0, 0, -1}, Hole: true, Samples: []float32{1}}, api.ErrRange},
		{"the hole before the number", trace.Trace{Hole: true, Samples: make([]float32, 1025)}, api.ErrConflict},
		{"the hole before the sample", trace.Trace{Hole: true, Samples: []float32{nan}}, api.ErrConflict},
		{"the number before the sample", trace.Trace{Samples: append([]float32{nan}, make([]float32, 1024)...)}, api.ErrMany},
		{"the first sample with an error: its range", trace.Trace{Samples: []float32{1, 2000, nan}}, api.ErrRange},
		{"the first sample with an error: its form", trace.Trace{Samples: []float32{1, nan, 2000}}, api.ErrForm},
		{"the last sample", trace.Trace{Samples: []float32{1, 2, 0.03125}}, api.ErrRange},
	} {
		same(t, "CheckTrace of "+x.what, trace.CheckTrace(x.u), x.e)
	}
}

// P1.2: CheckShot.
func TestCheckShot(t *testing.T) {
	for _, s := range []trace.Shot{s1(), one(), one(1), hollow(1), hollow(64), with(nil, nil), with([]float32{1}, []float32{minus0})} {
		same(t, "CheckShot", trace.CheckShot(s), api.OK)
	}
	for _, x := range badShots() {
		same(t, "CheckShot of "+x.what, trace.CheckShot(x.s), x.e)
	}
}

// P1.2: Width and Holes.
func TestWidthAndHoles(t *testing.T) {
	first := s1()
	first.Traces[0].Hole, first.Traces[0].Samples = true, nil
	for _, x := range []struct {
		what  string
		s     trace.Shot
		width int
		holes []int
	}{
		{"s1", s1(), 3, []int{1}}, {"a hole first", first, 3, []int{0, 1}}, {"holes alone", hollow(3), 0, []int{0, 1, 2}}, {"no samples", with(nil, nil), 0, []int{1}}, {"no holes", one(1, 2), 2, nil},
	} {
		w, e := trace.Width(x.s)
		ok(t, "Width of "+x.what, e)
		same(t, "Width of "+x.what, w, x.width)
		l, e := trace.Holes(x.s)
		ok(t, "Holes of "+x.what, e)
		same(t, "Holes of "+x.what, l, x.holes)
	}
	for _, x := range badShots() {
		w, e := trace.Width(x.s)
		same(t, "Width of "+x.what, [2]int{w, int(e)}, [2]int{0, int(x.e)})
		l, e := trace.Holes(x.s)
		same(t, "Holes of "+x.what, [2]int{len(l), int(e)}, [2]int{0, int(x.e)})
	}
}

// P1.2: Offset.
func TestOffset(t *testing.T) {
	far := trace.Trace{Header: [8]int{-100000, 100000, 100000, -100000}}
	for i, u := range append(s1().Traces, far, trace.Trace{Header: [8]int{5, 7, 2, 3}}) {
		n, e := trace.Offset(u)
		ok(t, "Offset", e)
		same(t, "Offset", n, []int{2500, 10000, 0, 80000000000, 25}[i])
	}
	for _, x := range []struct {
		u trace.Trace
		e api.Errno
	}{{trace.Trace{Header: [8]int{100001}}, api.ErrRange}, {trace.Trace{Header: [8]int{math.MinInt, 0, math.MaxInt}}, api.ErrRange}, {trace.Trace{Header: [8]int{0, 0, 3}, Hole: true, Samples: []float32{1}}, api.ErrConflict}, {trace.Trace{Header: [8]int{0, 0, 3}, Samples: []float32{nan}}, api.ErrForm}} {
		n, e := trace.Offset(x.u)
		same(t, "Offset of a bad trace", [2]int{n, int(e)}, [2]int{0, int(x.e)})
	}
}

// later returns a shot whose ticks are later.
func later(s trace.Shot, by int) trace.Shot {
	s = clone(s)
	for i := range s.Traces {
		s.Traces[i].Header[4] += by
	}
	return s
}

// P1.2: Cut.
func TestCut(t *testing.T) {
	for _, x := range []struct {
		span api.Span
		a, b []float32
	}{
		{api.Span{From: 1, To: 3}, []float32{2, 3}, []float32{-2, 0.0625}},
		{api.Span{From: 0, To: 3}, []float32{1, 2, 3}, []float32{1, -2, 0.0625}},
		{api.Span{From: 0, To: 1}, []float32{1}, []float32{1}},
		{api.Span{From: 2, To: 2}, nil, nil},
		{api.Span{From: 3, To: 3}, nil, nil},
	} {
		s, e := trace.Cut(s1(), x.span)
		ok(t, "Cut", e)
		same(t, "Cut", s, later(with(x.a, x.b), x.span.From))
	}
	s, e := trace.Cut(hollow(2), api.Span{})
	ok(t, "Cut of holes", e)
	same(t, "Cut of holes", s, hollow(2))
	for _, x := range []api.Span{{From: -1, To: 2}, {From: 2, To: 1}, {From: 0, To: 4}, {From: 4, To: 4}, {From: math.MaxInt, To: math.MaxInt}, {From: math.MinInt, To: math.MinInt}, {From: 0, To: math.MinInt}} {
		s, e := trace.Cut(s1(), x)
		same(t, "Cut outside", e, api.ErrSpan)
		same(t, "Cut outside", s, trace.Shot{})
	}
	_, e = trace.Cut(hollow(2), api.Span{From: 0, To: 1})
	same(t, "Cut of holes outside", e, api.ErrSpan)
	for _, x := range badShots() {
		s, e := trace.Cut(x.s, api.Span{From: -1})
		same(t, "Cut of "+x.what, e, x.e)
		same(t, "Cut of "+x.what, s, trace.Shot{})
	}
}

// P1.2: Cut at the end of time, also in holes.
func TestCutTicks(t *testing.T) {
	for i := range 3 {
		s := s1()
		s.Traces[i].Header[4] = 99999
		_, e := trace.Cut(s, api.Span{From: 1, To: 2})
		same(t, "Cut to the last tick", e, api.OK)
		c, e := trace.Cut(s, api.Span{From: 2, To: 2})
		same(t, "Cut behind the last tick", e, api.ErrLarge)
		same(t, "Cut behind the last tick", c, trace.Shot{})
		_, e = trace.Cut(s, api.Span{From: 2, To: 4})
		same(t, "Cut outside and behind the last tick", e, api.ErrSpan)
	}
}

// P1.2: Join.
func TestJoin(t *testing.T) {
	second := later(with([]float32{7, 8}, []float32{-7, -8}), 3)
	second.Name = "s2"
	j, e := trace.Join(s1(), second)
	ok(t, "Join", e)
	same(t, "Join", j, with([]float32{1, 2, 3, 7, 8}, []float32{1, -2, 0.0625, -7, -8}))
	// a trace that is a hole in one of both is a hole
	holed := clone(second)
	holed.Traces[0].Hole, holed.Traces[0].Samples = true, nil
	holed.Traces[1].Hole, holed.Traces[1].Samples = false, []float32{5, 6}
	want := with(nil, []float32{1, -2, 0.0625, -7, -8})
	want.Traces[0].Hole = true
	j, e = trace.Join(s1(), holed)
	ok(t, "Join with another hole", e)
	same(t, "Join with another hole", j, want)
	// holes alone can be joined with any width
	holes := s1()
	for i := range holes.Traces {
		holes.Traces[i].Hole, holes.Traces[i].Samples = true, nil
	}
	j, e = trace.Join(s1(), later(holes, 3))
	ok(t, "Join with holes alone", e)
	same(t, "Join with holes alone", j, holes)
	j, e = trace.Join(holes, s1())
	ok(t, "Join of holes alone", e)
	same(t, "Join of holes alone", j, holes)
}

// P1.2: the limit of Join, which holes do not have.
func TestJoinWidth(t *testing.T) {
	a := with(make([]float32, 1000), make([]float32, 1000))
	b := later(with(make([]float32, 24), make([]float32, 24)), 1000)
	_, e := trace.Join(a, b)
	same(t, "Join to 1024 samples", e, api.OK)
	b = later(with(make([]float32, 25), make([]float32, 25)), 1000)
	j, e := trace.Join(a, b)
	same(t, "Join to 1025 samples", e, api.ErrMany)
	same(t, "Join to 1025 samples", j, trace.Shot{})
	b.Traces[0].Hole, b.Traces[0].Samples = true, nil
	_, e = trace.Join(a, b)
	same(t, "Join to 1025 samples in the last trace", e, api.ErrMany)
	a.Traces[2].Hole, a.Traces[2].Samples = true, nil
	j, e = trace.Join(a, b)
	same(t, "Join to holes alone", e, api.OK)
	same(t, "Join to holes alone", len(j.Traces), 3)
}

// P1.2: the errors of Join.
func TestJoinErrors(t *testing.T) {
	far := with(make([]float32, 1024), make([]float32, 1024))
	for _, x := range []struct {
		what string
		a, b trace.Shot
		e    api.Errno
	}{
		{"fewer traces", s1(), trace.Shot{Name: "x", Traces: later(s1(), 3).Traces[:2]}, api.ErrShape},
		{"more traces", trace.Shot{Name: "x", Traces: s1().Traces[:2]}, later(s1(), 3), api.ErrShape},
		{"fewer traces with other headers", s1(), one(1), api.ErrShape},
		{"the same ticks", s1(), s1(), api.ErrConflict},
		{"ticks that are too late", s1(), later(s1(), 4), api.ErrConflict},
		{"another last number", s1(), later(changed(func(s *trace.Shot) { s.Traces[2].Header[7] = 0 }), 3), api.ErrConflict},
		{"another header of a hole", s1(), later(changed(func(s *trace.Shot) { s.Traces[1].Header[0] = 1 }), 3), api.ErrConflict},
		{"other headers with too many samples", far, far, api.ErrConflict},
		{"too many samples", far, later(far, 1024), api.ErrMany},
	} {
		j, e := trace.Join(x.a, x.b)
		same(t, "Join of "+x.what, e, x.e)
		same(t, "Join of "+x.what, j, trace.Shot{})
	}
	for _, x := range badShots() {
		_, e := trace.Join(x.s, trace.Shot{Name: "x"})
		same(t, "Join of "+x.what, e, x.e)
		_, e = trace.Join(one(1), x.s)
		same(t, "Join with "+x.what, e, x.e)
	}
}
