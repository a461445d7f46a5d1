package filter_test

import (
	"math"
	"reflect"
	"slices"
	"testing"

	"moveout/api"
	"moveout/filter"
	"moveout/trace"
)

var (
	nan     = float32(math.NaN())
	endless = float32(math.Inf(1))
	minus0  = float32(math.Copysign(0, -1))
)

// same compares a result with the expected one; nil and empty lists are equal.
func same(t *testing.T, what string, got, want any) {
	t.Helper()
	if !reflect.DeepEqual(plain(got), plain(want)) {
		t.Errorf("%s: got %v, want %v", what, got, want)
	}
}

// plain returns a value with nil in place of empty lists, as far as the tests compare such values.
func plain(x any) any {
	switch v := x.(type) {
	case []any:
		out := make([]any, len(v))
		for i := range v {
			out[i] = plain(v[i])
		}
		return out
	case trace.Shot:
		return clone(v)
	case []float32:
		return append([]float32(nil), v...)
	case []int:
		return append([]int(nil), v...)
	}
	return x
}

// clone returns a shot that shares nothing with another one; empty lists are nil.
func clone(s trace.Shot) trace.Shot {
	s.Traces = append([]trace.Trace(nil), s.Traces...)
	for i := range s.Traces {
		s.Traces[i].Samples = append([]float32(nil), s.Traces[i].Samples...)
	}
	return s
}

// ok fails the test if there is an error.
func ok(t *testing.T, what string, e api.Errno) {
	t.Helper()
	if e != api.OK {
		t.Fatalf("%s: got the error %d", what, e)
	}
}

// fails checks that a result has an error, and is the zero value.
func fails(t *testing.T, what string, got any, e, want api.Errno) {
	t.Helper()
	if e != want {
		t.Errorf("%s: got the error %d, want %d", what, e, want)
	}
	if v := reflect.ValueOf(plain(got)); e != api.OK && !v.IsZero() {
		t.Errorf("%s: got %v beside the error %d", what, got, e)
	}
}

// samples returns the samples with some integers.
func samples(l ...int) []float32 {
	var out []float32
	for _, n := range l {
		out = append(out, float32(n)/16)
	}
	return out
}

// integers returns the integers of samples.
func integers(l []float32) []int {
	var out []int
	for _, x := range l {
		out = append(out, int(16*x))
	}
	return out
}

// full returns n times the same integer, as samples.
func full(n, integer int) []float32 {
	return slices.Repeat(samples(integer), n)
}

// badList is a list of samples that is none, with its error.
type badList struct {
	what string
	l    []float32
	e    api.Errno
}

// badLists returns lists with each error of a list, and with two where their order matters.
func badLists() []badList {
	return []badList{
		{"1025 samples", make([]float32, 1025), api.ErrMany},
		{"1025 samples, the first one bad", append([]float32{nan}, make([]float32, 1024)...), api.ErrMany},
		{"NaN", []float32{1, nan, 0, 1}, api.ErrForm},
		{"an infinite sample", []float32{-endless}, api.ErrForm},
		{"a sample above", []float32{1, 2, 1024.0625}, api.ErrRange},
		{"a sample below", []float32{-1025}, api.ErrRange},
		{"a sample between", []float32{0.03125, 1}, api.ErrRange},
		{"the form first", []float32{1, nan, 2000}, api.ErrForm},
		{"the range first", []float32{1, 2000, nan}, api.ErrRange},
	}
}

// badTaps is taps that are none, with their error.
type badTaps struct {
	what string
	taps []int
	e    api.Errno
}

// badTapLists returns taps with each error of CheckTaps, and with two where their order matters.
func badTapLists() []badTaps {
	return []badTaps{
		{"nil", nil, api.ErrEmpty},
		{"an empty list", []int{}, api.ErrEmpty},
		{"nine taps", []int{1, 1, 1, 1, 1, 1, 1, 1, 1}, api.ErrMany},
		{"nine taps, the first one bad", []int{17, 1, 1, 1, 1, 1, 1, 1, 1}, api.ErrMany},
		{"nine taps, the first one 0", make([]int, 9), api.ErrMany},
		{"a tap above", []int{17}, api.ErrRange},
		{"a tap below", []int{-17}, api.ErrRange},
		{"a last tap above", []int{1, 2, 3, 4, 5, 6, 7, 17}, api.ErrRange},
		{"the least number", []int{1, math.MinInt}, api.ErrRange},
		{"the greatest number", []int{1, math.MaxInt}, api.ErrRange},
		{"a range before a first 0", []int{0, 17}, api.ErrRange},
		{"a first 0", []int{0}, api.ErrZero},
		{"a first 0 before others", []int{0, 16, -16}, api.ErrZero},
	}
}

// badDelays are delays, and bottoms, that are none.
var badDelays = []int{0, -1, 65, 1025, math.MinInt, math.MaxInt}

// shot returns a shot with two traces and a hole between them.
func shot(a, b []float32) trace.Shot {
	return trace.Shot{Name: "s1", Traces: []trace.Trace{
		{Header: [8]int{0, 0, 30, 40, 15, 0, 0, 0}, Samples: a},
		{Header: [8]int{0, 0, 60, 80, 5, 1, 0, 0}, Hole: true},
		{Header: [8]int{0, 0, 0, 0, 99, 2, 0, -7}, Samples: b},
	}}
}

// badShot is a shot that is none, with its error.
type badShot struct {
	what string
	s    trace.Shot
	e    api.Errno
}

// badShots returns shots with each error of trace.CheckShot.
func badShots() []badShot {
	change := func(f func(s *trace.Shot)) trace.Shot {
		s := shot([]float32{1, 2}, []float32{3, 4})
		f(&s)
		return s
	}
	return []badShot{
		{"a bad name", change(func(s *trace.Shot) { s.Name = "1" }), api.ErrName},
		{"no traces", trace.Shot{Name: "s"}, api.ErrEmpty},
		{"65 traces", trace.Shot{Name: "s", Traces: make([]trace.Trace, 65)}, api.ErrMany},
		{"a header", change(func(s *trace.Shot) { s.Traces[1].Header[4] = 100001 }), api.ErrRange},
		{"a hole with samples", change(func(s *trace.Shot) { s.Traces[1].Samples = []float32{1, 2} }), api.ErrConflict},
		{"a bad sample", change(func(s *trace.Shot) { s.Traces[2].Samples[1] = nan }), api.ErrForm},
		{"another width", shot([]float32{1, 2}, []float32{3}), api.ErrShape},
	}
}

// random is a sequence of numbers that is the same in each run.
type random uint64

// below returns the next number from 0 to n - 1.
func (r *random) below(n int) int {
	*r = *r*6364136223846793005 + 1442695040888963407
	return int(uint64(*r) >> 33 % uint64(n))
}

// integer returns the next number from -most to most.
func (r *random) integer(most int) int {
	return r.below(2*most+1) - most
}

// numbers returns n integers from -most to most.
func (r *random) numbers(n, most int) []int {
	l := make([]int, n)
	for i := range l {
		l[i] = r.integer(most)
	}
	return l
}

// taps returns 1 to 8 taps from -most to most.
func (r *random) taps(most int) []int {
	l := r.numbers(1+r.below(8), most)
	for l[0] == 0 {
		l[0] = r.integer(most)
	}
	return l
}

// unitTaps returns 1 to 8 taps from -most to most, the first one 1 or -1.
func (r *random) unitTaps(most int) []int {
	l := r.taps(most)
	l[0] = 1 - 2*r.below(2)
	return l
}

// tides returns a table of tides.
func (r *random) tides(rows, step int) []filter.Tide {
	var l []filter.Tide
	tick := r.below(step)
	for range 1 + r.below(rows) {
		l = append(l, filter.Tide{Tick: tick, Height: r.integer(5)})
		tick += 1 + r.below(step)
	}
	return l
}

// shot returns a shot with a width and some holes.
func (r *random) shot(width, most int) trace.Shot {
	s := trace.Shot{Name: "r"}
	for range 1 + r.below(6) {
		t := trace.Trace{Header: [8]int{r.integer(9), 0, 0, 0, r.below(60), 7, 8, 9}, Hole: r.below(3) == 0}
		if !t.Hole {
			t.Samples = samples(r.numbers(width, most)...)
		}
		s.Traces = append(s.Traces, t)
	}
	return s
}

// square returns four traces of four samples whose integers are from -most to most.
func (r *random) square(most int) [4][4]float32 {
	var l [4][4]float32
	for t := range l {
		l[t] = [4]float32(samples(r.numbers(4, most)...))
	}
	return l
}
