package trace_test

import (
	"math"
	"testing"

	"moveout/api"
	"moveout/trace"
)

// P1.3: Sum.
func TestSum(t *testing.T) {
	other := with([]float32{1, 1, -1}, []float32{0.5, -4, 0.0625})
	other.Name = "other"
	s, e := trace.Sum(s1(), other)
	ok(t, "Sum", e)
	same(t, "Sum", s, with([]float32{2, 3, 2}, []float32{1.5, -6, 0.125}))
	// a hole in one of both is a hole
	other.Traces[1].Hole, other.Traces[1].Samples = false, []float32{5, 5, 5}
	other.Traces[2].Hole, other.Traces[2].Samples = true, nil
	want := with([]float32{2, 3, 2}, nil)
	want.Traces[2].Hole = true
	s, e = trace.Sum(s1(), other)
	ok(t, "Sum with another hole", e)
	same(t, "Sum with another hole", s, want)
	// holes alone are added to any width
	holes := s1()
	for i := range holes.Traces {
		holes.Traces[i].Hole, holes.Traces[i].Samples = true, nil
	}
	s, e = trace.Sum(s1(), holes)
	ok(t, "Sum with holes alone", e)
	same(t, "Sum with holes alone", s, holes)
	s, e = trace.Sum(holes, s1())
	ok(t, "Sum of holes alone", e)
	same(t, "Sum of holes alone", s, holes)
	// both widths count even if no trace has samples in both
	a, b := with([]float32{1}, nil), with(nil, []float32{1, 2})
	a.Traces[2].Hole, b.Traces[0].Hole = true, true
	_, e = trace.Sum(a, b)
	same(t, "Sum of other widths in other traces", e, api.ErrShape)
	b.Traces[2].Samples = []float32{4}
	s, e = trace.Sum(a, b)
	ok(t, "Sum to holes alone", e)
	same(t, "Sum to holes alone", s, holes)
}

// P1.3: the errors of Sum.
func TestSumErrors(t *testing.T) {
	for _, x := range []struct {
		what string
		a, b trace.Shot
		e    api.Errno
	}{
		{"fewer traces", s1(), trace.Shot{Name: "x", Traces: s1().Traces[:2]}, api.ErrShape},
		{"more traces", trace.Shot{Name: "x", Traces: s1().Traces[:2]}, s1(), api.ErrShape},
		{"another width", s1(), with([]float32{1, 2}, []float32{1, 2}), api.ErrShape},
		{"another width 0", s1(), with(nil, nil), api.ErrShape},
		{"another width and another header", s1(), later(with([]float32{1}, []float32{1}), 1), api.ErrShape},
		{"another header", s1(), changed(func(s *trace.Shot) { s.Traces[2].Header[7] = 7 }), api.ErrConflict},
		{"another header of a hole", s1(), changed(func(s *trace.Shot) { s.Traces[1].Header[4] = 6 }), api.ErrConflict},
		{"another header and a large sum", with([]float32{1024, 0, 0}, []float32{0, 0, 0}), later(with([]float32{1, 0, 0}, []float32{0, 0, 0}), 1), api.ErrConflict},
		{"a sum above", one(1024), one(0.0625), api.ErrLarge},
		{"a sum below", one(0, -1000), one(0, -24.0625), api.ErrLarge},
	} {
		s, e := trace.Sum(x.a, x.b)
		same(t, "Sum of "+x.what, e, x.e)
		same(t, "Sum of "+x.what, s, trace.Shot{})
	}
	s, e := trace.Sum(one(1000, -1000, 1024), one(24, -24, -1024))
	ok(t, "Sum to the limits", e)
	same(t, "Sum to the limits", s, one(1024, -1024, 0))
	for _, x := range badShots() {
		_, e := trace.Sum(x.s, trace.Shot{Name: "x"})
		same(t, "Sum of "+x.what, e, x.e)
		_, e = trace.Sum(one(1), x.s)
		same(t, "Sum with "+x.what, e, x.e)
	}
}

// P1.3: Scaled.
func TestScaled(t *testing.T) {
	for _, x := range []struct {
		num, den int
		a, b     []float32
	}{
		{1, 2, []float32{0.5, 1, 1.5}, []float32{0.5, -1, 0.0625}},
		{-1, 2, []float32{-0.5, -1, -1.5}, []float32{-0.5, 1, 0}},
		{0, 5, []float32{0, 0, 0}, []float32{0, 0, 0}},
		{341, 1, []float32{341, 682, 1023}, []float32{341, -682, 21.3125}},
		{1024, 1024, []float32{1, 2, 3}, []float32{1, -2, 0.0625}},
		{1, 1024, []float32{0, 0, 0}, []float32{0, 0, 0}},
	} {
		s, e := trace.Scaled(s1(), x.num, x.den)
		ok(t, "Scaled", e)
		same(t, "Scaled", s, with(x.a, x.b))
	}
	// the integers -7 to 7 by 2, 3 and 4: a half goes up
	l := make([]float32, 15)
	for i := range l {
		l[i] = float32(i-7) / 16
	}
	for _, den := range []int{2, 3, 4} {
		s, e := trace.Scaled(one(l...), 1, den)
		ok(t, "Scaled", e)
		for i, x := range s.Traces[0].Samples {
			same(t, "Scaled and rounded", x, float32(math.Floor(float64(i-7)/float64(den)+0.5))/16)
		}
	}
	s, e := trace.Scaled(hollow(2), 1024, 1)
	ok(t, "Scaled holes", e)
	same(t, "Scaled holes", s, hollow(2))
}

// P1.3: the errors of Scaled.
func TestScaledErrors(t *testing.T) {
	for _, x := range []struct {
		s        trace.Shot
		num, den int
		e        api.Errno
	}{
		{s1(), 1025, 1, api.ErrRange}, {s1(), -1025, 1, api.ErrRange}, {s1(), 1, 0, api.ErrRange}, {s1(), 1, -1, api.ErrRange}, {s1(), 1, 1025, api.ErrRange}, {s1(), math.MaxInt, 1, api.ErrRange}, {s1(), 1024, 0, api.ErrRange}, {s1(), math.MinInt, math.MinInt, api.ErrRange},
		{s1(), 342, 1, api.ErrLarge}, {s1(), -342, 1, api.ErrLarge}, {one(1024), 1024, 1, api.ErrLarge}, {one(1024), -1024, 1023, api.ErrLarge}, {one(-1024), 1024, 1023, api.ErrLarge},
	} {
		s, e := trace.Scaled(x.s, x.num, x.den)
		same(t, "Scaled", e, x.e)
		same(t, "Scaled", s, trace.Shot{})
	}
	for _, x := range badShots() {
		_, e := trace.Scaled(x.s, 1025, 0)
		same(t, "Scaled "+x.what, e, x.e)
	}
}

// P1.3: Delayed.
func TestDelayed(t *testing.T) {
	zero := []float32{0, 0, 0}
	for _, x := range []struct {
		n    int
		a, b []float32
	}{
		{0, []float32{1, 2, 3}, []float32{1, -2, 0.0625}}, {1, []float32{0, 1, 2}, []float32{0, 1, -2}}, {2, []float32{0, 0, 1}, []float32{0, 0, 1}},
		{-1, []float32{2, 3, 0}, []float32{-2, 0.0625, 0}}, {-2, []float32{3, 0, 0}, []float32{0.0625, 0, 0}}, {3, zero, zero}, {-3, zero, zero}, {1024, zero, zero}, {-1024, zero, zero},
	} {
		s, e := trace.Delayed(s1(), x.n)
		ok(t, "Delayed", e)
		same(t, "Delayed", s, with(x.a, x.b))
	}
	s, e := trace.Delayed(hollow(2), 5)
	ok(t, "Delayed holes", e)
	same(t, "Delayed holes", s, hollow(2))
	for _, n := range []int{1025, -1025, math.MaxInt, math.MinInt} {
		s, e := trace.Delayed(s1(), n)
		same(t, "Delayed too far", e, api.ErrRange)
		same(t, "Delayed too far", s, trace.Shot{})
	}
	for _, x := range badShots() {
		_, e := trace.Delayed(x.s, 1025)
		same(t, "Delayed "+x.what, e, x.e)
	}
}

// P1.3: Stack.
func TestStack(t *testing.T) {
	for _, x := range []struct {
		s    trace.Shot
		want []float32
	}{
		{s1(), []float32{1, 0, 1.5625}}, {with([]float32{0.0625}, []float32{0}), []float32{0.0625}}, {with([]float32{-0.0625}, []float32{0}), []float32{0}}, {with([]float32{1024, -1024}, []float32{1024, -1024}), []float32{1024, -1024}}, {with(nil, nil), nil}, {one(5), []float32{5}},
	} {
		l, e := trace.Stack(x.s)
		ok(t, "Stack", e)
		same(t, "Stack", l, x.want)
	}
	three := s1()
	three.Traces[1].Hole, three.Traces[1].Samples = false, []float32{0, 0, 0}
	l, e := trace.Stack(three)
	ok(t, "Stack of three", e)
	// the integers 32, 0 and 49 by 3
	same(t, "Stack of three", l, []float32{11.0 / 16, 0, 1})
	l, e = trace.Stack(hollow(3))
	same(t, "Stack of holes", e, api.ErrNone)
	same(t, "Stack of holes", l, []float32{})
	for _, x := range badShots() {
		l, e := trace.Stack(x.s)
		same(t, "Stack of "+x.what, e, x.e)
		same(t, "Stack of "+x.what, l, []float32{})
	}
}
