package trace_test

import (
	"math"
	"reflect"
	"slices"
	"strings"
	"testing"

	"moveout/api"
	"moveout/trace"
)

var (
	nan     = float32(math.NaN())
	endless = float32(math.Inf(1))
	minus0  = float32(math.Copysign(0, -1))
)

// same compares a result with the expected one; nil and empty lists are equal.
func same(t *testing.T, what string, got, want any) {
	t.Helper()
	if !reflect.DeepEqual(plain(got), plain(want)) {
		t.Errorf("%s: got %v, want %v", what, got, want)
	}
}

// plain returns a value with nil in place of empty lists, as far as the tests compare such values.
func plain(x any) any {
	switch v := x.(type) {
	case trace.Shot:
		v = clone(v)
		for i := range v.Traces {
			if len(v.Traces[i].Samples) == 0 {
				v.Traces[i].Samples = nil
			}
		}
		if len(v.Traces) == 0 {
			v.Traces = nil
		}
		return v
	case []float32:
		return append([]float32(nil), v...)
	case []int:
		return append([]int(nil), v...)
	case []byte:
		return append([]byte(nil), v...)
	}
	return x
}

// ok fails the test if there is an error.
func ok(t *testing.T, what string, e api.Errno) {
	t.Helper()
	if e != api.OK {
		t.Fatalf("%s: got the error %d", what, e)
	}
}

// clone returns a shot that shares nothing with another one.
func clone(s trace.Shot) trace.Shot {
	s.Traces = slices.Clone(s.Traces)
	for i := range s.Traces {
		s.Traces[i].Samples = slices.Clone(s.Traces[i].Samples)
	}
	return s
}

// s1 returns the shot of the chapter.
func s1() trace.Shot {
	return trace.Shot{Name: "s1", Traces: []trace.Trace{
		{Header: [8]int{0, 0, 30, 40, 5, 0, 0, 0}, Samples: []float32{1, 2, 3}},
		{Header: [8]int{0, 0, 60, 80, 5, 1, 0, 0}, Hole: true},
		{Header: [8]int{0, 0, 0, 0, 5, 2, 0, -7}, Samples: []float32{1, -2, 0.0625}},
	}}
}

// with returns the shot of the chapter with other samples.
func with(a, b []float32) trace.Shot {
	s := s1()
	s.Traces[0].Samples, s.Traces[2].Samples = a, b
	return s
}

// changed returns the shot of the chapter with a change.
func changed(change func(s *trace.Shot)) trace.Shot {
	s := s1()
	change(&s)
	return s
}

// one returns a shot of one trace.
func one(samples ...float32) trace.Shot {
	return trace.Shot{Name: "one", Traces: []trace.Trace{{Samples: samples}}}
}

// hollow returns a shot of holes.
func hollow(n int) trace.Shot {
	s := trace.Shot{Name: "hollow", Traces: make([]trace.Trace, n)}
	for i := range s.Traces {
		s.Traces[i].Hole = true
	}
	return s
}

// badShot is a shot that is none, with its error.
type badShot struct {
	what string
	s    trace.Shot
	e    api.Errno
}

// badShots returns shots with each error of CheckShot, and with two of them where their order matters.
func badShots() []badShot {
	return []badShot{
		{"no name", changed(func(s *trace.Shot) { s.Name = "" }), api.ErrName},
		{"a bad name", changed(func(s *trace.Shot) { s.Name = "1s" }), api.ErrName},
		{"a bad name before no traces", trace.Shot{Name: "s-1"}, api.ErrName},
		{"no traces", trace.Shot{Name: "s"}, api.ErrEmpty},
		{"65 traces", hollow(65), api.ErrMany},
		{"65 traces, the first one bad", changed(func(s *trace.Shot) {
			s.Traces = hollow(65).Traces
			s.Traces[0].Header[0] = 100001
		}), api.ErrMany},
		{"a header in a hole", changed(func(s *trace.Shot) { s.Traces[1].Header[3] = -100001 }), api.ErrRange},
		{"a hole with samples", changed(func(s *trace.Shot) { s.Traces[1].Samples = []float32{1, 2, 3} }), api.ErrConflict},
		{"too many samples", with(make([]float32, 1025), make([]float32, 1025)), api.ErrMany},
		{"a sample that is NaN", with([]float32{1, nan, 3}, []float32{1, 2, 3}), api.ErrForm},
		{"a sample out of range", with([]float32{1, 2, 3}, []float32{1, 1024.0625, 3}), api.ErrRange},
		{"the error of the trace 0 before that of the trace 1", changed(func(s *trace.Shot) {
			s.Traces[0].Samples[0] = endless
			s.Traces[1].Header[3] = -100001
		}), api.ErrForm},
		{"the error of the trace 2 before other widths", changed(func(s *trace.Shot) {
			s.Traces[0].Samples = s.Traces[0].Samples[:1]
			s.Traces[2].Samples[2] = 0.03125
		}), api.ErrRange},
		{"a shorter trace", with([]float32{1, 2, 3}, []float32{1}), api.ErrShape},
		{"a longer trace", with([]float32{1, 2, 3}, []float32{1, 2, 3, 4}), api.ErrShape},
		{"an empty trace", with([]float32{1, 2, 3}, nil), api.ErrShape},
		{"an empty trace first", with(nil, []float32{1, 2, 3}), api.ErrShape},
	}
}

// random is a sequence of numbers that is the same in each run.
type random uint64

// below returns the next number from 0 to n - 1.
func (r *random) below(n int) int {
	*r = *r*6364136223846793005 + 1442695040888963407
	return int(uint64(*r) >> 33 % uint64(n))
}

// integer returns the next number from -most to most.
func (r *random) integer(most int) int {
	return r.below(2*most+1) - most
}

// samples returns n samples whose integers are from -most to most.
func (r *random) samples(n, most int) []float32 {
	l := make([]float32, n)
	for i := range l {
		l[i] = float32(r.integer(most)) / 16
	}
	return l
}

// header returns a header whose tick is at most MaxTime - MaxSamples.
func (r *random) header() [8]int {
	var h [8]int
	for i := range h {
		h[i] = r.integer(api.MaxPlace)
	}
	h[4] = r.below(api.MaxTime - api.MaxSamples + 1)
	h[7] = r.integer(api.MaxNumber)
	return h
}

// shot returns a shot with a width, and some holes, but no holes alone.
func (r *random) shot(width, most int) trace.Shot {
	s := trace.Shot{Name: "r" + strings.Repeat("_", r.below(24))}
	for range 1 + r.below(6) {
		t := trace.Trace{Header: r.header(), Hole: r.below(3) == 0}
		if !t.Hole {
			t.Samples = r.samples(width, most)
		}
		s.Traces = append(s.Traces, t)
	}
	s.Traces = append(s.Traces, trace.Trace{Header: r.header(), Samples: r.samples(width, most)})
	return s
}
