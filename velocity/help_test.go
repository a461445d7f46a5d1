package velocity_test

import (
	"math"
	"reflect"
	"slices"
	"testing"

	"moveout/api"
	"moveout/trace"
	"moveout/velocity"
)

var (
	nan     = float32(math.NaN())
	endless = float32(math.Inf(1))
	minus0  = float32(math.Copysign(0, -1))
)

// same compares a result with the expected one; nil and empty lists are equal.
func same(t *testing.T, what string, got, want any) {
	t.Helper()
	if !reflect.DeepEqual(plain(got), plain(want)) {
		t.Errorf("%s: got %v, want %v", what, got, want)
	}
}

// bare returns a copy of a list, which is nil if the list is empty.
func bare[T any](l []T) []T {
	return append([]T(nil), l...)
}

// plain returns a value with nil in place of empty lists, as far as the tests compare such values.
func plain(x any) any {
	switch v := x.(type) {
	case []any:
		out := make([]any, len(v))
		for i := range v {
			out[i] = plain(v[i])
		}
		return out
	case trace.Shot:
		return clone(v)
	case [][]int:
		out := bare(v)
		for i := range out {
			out[i] = bare(out[i])
		}
		return out
	case []float32:
		return bare(v)
	case []velocity.Pick:
		return bare(v)
	case []api.Ratio:
		return bare(v)
	case []int:
		return bare(v)
	}
	return x
}

// clone returns a shot that shares nothing with another one; empty lists are nil.
func clone(s trace.Shot) trace.Shot {
	s.Traces = bare(s.Traces)
	for i := range s.Traces {
		s.Traces[i].Samples = bare(s.Traces[i].Samples)
	}
	return s
}

// ok fails the test if there is an error.
func ok(t *testing.T, what string, e api.Errno) {
	t.Helper()
	if e != api.OK {
		t.Fatalf("%s: got the error %d", what, e)
	}
}

// fails checks an error, and that all results beside it are zero values.
func fails(t *testing.T, what string, e, want api.Errno, results ...any) {
	t.Helper()
	if e != want {
		t.Errorf("%s: got the error %d, want %d", what, e, want)
	}
	for _, got := range results {
		if e != api.OK && !reflect.ValueOf(plain(got)).IsZero() {
			t.Errorf("%s: got %v beside the error %d", what, got, e)
		}
	}
}

// ints returns a list of integers.
func ints(l ...int) []int { return l }

// samples returns the samples with some integers.
func samples(l ...int) []float32 {
	var out []float32
	for _, n := range l {
		out = append(out, float32(n)/16)
	}
	return out
}

// integers returns the integers of samples.
func integers(l []float32) []int {
	var out []int
	for _, x := range l {
		out = append(out, int(16*x))
	}
	return out
}

// at returns the header of a trace whose receiver has this place, and whose source is at 0, 0.
func at(x, y int) [8]int {
	return [8]int{0, 0, x, y, 3, 0, 0, -7}
}

// gatherG returns the gather G of the chapter.
func gatherG() trace.Shot {
	return trace.Shot{Name: "g", Traces: []trace.Trace{
		{Header: at(0, 0), Samples: []float32{0, 0, 4, 0}},
		{Header: at(0, 2), Samples: []float32{0, 0, 8, 0}},
		{Header: at(9, 9), Hole: true},
	}}
}

// settingX returns the setting X of the chapter.
func settingX() velocity.Setting {
	return velocity.Setting{Fan: []int{1, 4}, Stretch: 4, Every: 2}
}

// holes returns a shot of holes alone.
func holes() trace.Shot {
	return trace.Shot{Name: "holes", Traces: []trace.Trace{{Hole: true}, {Header: at(1, 1), Hole: true}}}
}

// wide returns a gather with one trace at the offset 0.
func wide(width int) trace.Shot {
	return trace.Shot{Name: "wide", Traces: []trace.Trace{{Samples: make([]float32, width)}}}
}

// badShot is a shot that is none, with its error.
type badShot struct {
	what string
	s    trace.Shot
	e    api.Errno
}

// badShots returns shots with each error of trace.CheckShot.
func badShots() []badShot {
	change := func(f func(s *trace.Shot)) trace.Shot {
		s := gatherG()
		f(&s)
		return s
	}
	return []badShot{
		{"a bad name", change(func(s *trace.Shot) { s.Name = "1" }), api.ErrName},
		{"no traces", trace.Shot{Name: "s"}, api.ErrEmpty},
		{"65 traces", trace.Shot{Name: "s", Traces: make([]trace.Trace, 65)}, api.ErrMany},
		{"a header", change(func(s *trace.Shot) { s.Traces[2].Header[0] = 100001 }), api.ErrRange},
		{"a hole with samples", change(func(s *trace.Shot) { s.Traces[2].Samples = []float32{1, 2, 3, 4} }), api.ErrConflict},
		{"1025 samples", wide(1025), api.ErrMany},
		{"a bad sample", change(func(s *trace.Shot) { s.Traces[1].Samples[3] = nan }), api.ErrForm},
		{"a large sample", change(func(s *trace.Shot) { s.Traces[1].Samples[3] = 1025 }), api.ErrRange},
		{"another width", change(func(s *trace.Shot) { s.Traces[1].Samples = s.Traces[1].Samples[:3] }), api.ErrShape},
	}
}

// badSetting is a setting that is none, with its error.
type badSetting struct {
	what string
	x    velocity.Setting
	e    api.Errno
}

// fan returns so many squared velocities from 1 on.
func fan(rows int) []int {
	var l []int
	for i := range rows {
		l = append(l, i+1)
	}
	return l
}

// badSettings returns settings with each error of CheckSetting, and with two where their order matters.
func badSettings() []badSetting {
	change := func(f func(x *velocity.Setting)) velocity.Setting {
		x := settingX()
		f(&x)
		return x
	}
	l := []badSetting{
		{"the zero value", velocity.Setting{}, api.ErrEmpty},
		{"an empty fan", change(func(x *velocity.Setting) { x.Fan = []int{} }), api.ErrEmpty},
		{"an empty fan before a window", change(func(x *velocity.Setting) { x.Fan, x.Window = nil, -1 }), api.ErrEmpty},
		{"17 rows", change(func(x *velocity.Setting) { x.Fan = fan(17) }), api.ErrMany},
		{"17 rows, the first one bad", change(func(x *velocity.Setting) { x.Fan = make([]int, 17) }), api.ErrMany},
		{"a row twice", change(func(x *velocity.Setting) { x.Fan = ints(3, 3) }), api.ErrOrder},
		{"a row below the one before it", change(func(x *velocity.Setting) { x.Fan = ints(3, 5, 4) }), api.ErrOrder},
		{"a range before the order", change(func(x *velocity.Setting) { x.Fan = ints(3, 0) }), api.ErrRange},
		{"an order before the next range", change(func(x *velocity.Setting) { x.Fan = ints(3, 2, 0) }), api.ErrOrder},
		{"an order before the window", change(func(x *velocity.Setting) { x.Fan, x.Window = ints(3, 2), -1 }), api.ErrOrder},
	}
	for _, v := range badVelocities {
		l = append(l, badSetting{"a squared velocity", change(func(x *velocity.Setting) { x.Fan = ints(v) }), api.ErrRange})
	}
	for _, n := range badWindows {
		l = append(l, badSetting{"a window", change(func(x *velocity.Setting) { x.Window = n }), api.ErrRange})
	}
	for _, n := range badStretches {
		l = append(l, badSetting{"a stretch", change(func(x *velocity.Setting) { x.Stretch = n }), api.ErrRange})
	}
	for _, n := range []int{0, -1, 1025, math.MinInt, math.MaxInt} {
		l = append(l, badSetting{"a step", change(func(x *velocity.Setting) { x.Every = n }), api.ErrRange})
	}
	return l
}

// Numbers that are not in the ranges of squared velocities, windows, stretches and errors of picks.
var (
	badVelocities = []int{0, -1, 1000000001, math.MinInt, math.MaxInt}
	badWindows    = []int{-1, 17, math.MinInt, math.MaxInt}
	badStretches  = []int{-1, 1025, math.MinInt, math.MaxInt}
	badErrors     = []int{-1, 1000000001, math.MinInt, math.MaxInt}
)

// badPanel is a panel that is none, with its error.
type badPanel struct {
	what string
	p    [][]int
	e    api.Errno
}

// flat returns a panel of zeros.
func flat(times, rows int) [][]int {
	p := make([][]int, times)
	for t := range p {
		p[t] = make([]int, rows)
	}
	return p
}

// badPanels returns panels with each error of CheckPanel, and with two where their order matters.
func badPanels() []badPanel {
	return []badPanel{
		{"nil", nil, api.ErrEmpty},
		{"no times", [][]int{}, api.ErrEmpty},
		{"65 times", flat(65, 1), api.ErrMany},
		{"65 times without rows", make([][]int, 65), api.ErrMany},
		{"no rows", [][]int{{}}, api.ErrEmpty},
		{"no rows at a later time", [][]int{{1}, nil}, api.ErrEmpty},
		{"no rows at the first time", [][]int{nil, {1}}, api.ErrEmpty},
		{"17 rows", flat(1, 17), api.ErrMany},
		{"17 rows at a later time", [][]int{{1}, make([]int, 17)}, api.ErrMany},
		{"17 rows with a bad score", [][]int{slices.Repeat(ints(-1), 17)}, api.ErrMany},
		{"more rows", [][]int{{1}, {1, 2}}, api.ErrShape},
		{"fewer rows", [][]int{{1, 2}, {1, 2}, {1}}, api.ErrShape},
		{"a shape before a score", [][]int{{1}, {1, 1025}}, api.ErrShape},
		{"a score before the next shape", [][]int{{1, -1}, {1}}, api.ErrRange},
		{"a shape before the next score", [][]int{{1}, {1, 2}, {-1}}, api.ErrShape},
		{"a score above", [][]int{{1024}, {1025}}, api.ErrRange},
		{"a score below", [][]int{{0, 0, -1}}, api.ErrRange},
		{"the least score", [][]int{{math.MinInt}}, api.ErrRange},
		{"the greatest score", [][]int{{0, math.MaxInt}}, api.ErrRange},
	}
}

// limits returns limits.
func limits(up, down int) velocity.Limits {
	return velocity.Limits{Up: up, Down: down}
}

// badLimits are limits that are none.
var badLimits = []velocity.Limits{{Up: -1}, {Down: -1}, {Up: 17}, {Down: 17}, {Up: 17, Down: 3}, {Up: 3, Down: -1}, {Up: math.MinInt, Down: math.MaxInt}, {Up: math.MaxInt, Down: math.MinInt}}

// pick returns a pick.
func pick(time, square, e int) velocity.Pick {
	return velocity.Pick{Time: time, Square: square, Error: e}
}

// rising returns so many picks with the times 1, 2, 3 ..
func rising(picks int) []velocity.Pick {
	var l []velocity.Pick
	for i := range picks {
		l = append(l, pick(i+1, 7, 0))
	}
	return l
}

// badPicks is picks that are none, with their error.
type badPicks struct {
	what string
	l    []velocity.Pick
	e    api.Errno
}

// badPickLists returns picks with each error of CheckPicks, and with two where their order matters.
func badPickLists() []badPicks {
	l := []badPicks{
		{"65 picks", rising(65), api.ErrMany},
		{"65 picks that are none", make([]velocity.Pick, 65), api.ErrMany},
		{"the zero value", make([]velocity.Pick, 1), api.ErrRange},
		{"a time twice", []velocity.Pick{pick(2, 1, 0), pick(2, 2, 0)}, api.ErrOrder},
		{"a time before", []velocity.Pick{pick(1, 1, 0), pick(3, 1, 0), pick(2, 1, 0)}, api.ErrOrder},
		{"a squared velocity before the order", []velocity.Pick{pick(2, 1, 0), pick(1, 0, 0)}, api.ErrRange},
		{"an error before the order", []velocity.Pick{pick(2, 1, 0), pick(1, 1, -1)}, api.ErrRange},
		{"an order before the next range", []velocity.Pick{pick(2, 1, 0), pick(1, 1, 0), pick(0, 1, 0)}, api.ErrOrder},
	}
	for _, n := range []int{0, -1, 1025, math.MinInt, math.MaxInt} {
		l = append(l, badPicks{"a time", []velocity.Pick{pick(n, 1, 0)}, api.ErrRange})
	}
	for _, n := range badVelocities {
		l = append(l, badPicks{"a squared velocity", []velocity.Pick{pick(1, 1, 0), pick(2, n, 0)}, api.ErrRange})
	}
	for _, n := range badErrors {
		l = append(l, badPicks{"an error", []velocity.Pick{pick(1, 1, n)}, api.ErrRange})
	}
	return l
}

// span returns an interval.
func span(low, high int) api.Interval {
	return api.Interval{Low: low, High: high}
}

// badBounds is bounds that are none, with their error.
type badBounds struct {
	b api.Interval
	e api.Errno
}

// badBoundsList returns bounds with each error, and with two where their order matters.
func badBoundsList() []badBounds {
	l := []badBounds{{span(2, 1), api.ErrOrder}, {span(1000000000, 1), api.ErrOrder}, {span(2, 0), api.ErrRange}, {span(1000000001, 1), api.ErrRange}, {span(0, -1), api.ErrRange}}
	for _, n := range badVelocities {
		l = append(l, badBounds{span(n, 5), api.ErrRange}, badBounds{span(5, n), api.ErrRange})
	}
	return l
}

// random is a sequence of numbers that is the same in each run.
type random uint64

// below returns the next number from 0 to n - 1.
func (r *random) below(n int) int {
	*r = *r*6364136223846793005 + 1442695040888963407
	return int(uint64(*r) >> 33 % uint64(n))
}

// integer returns the next number from -most to most.
func (r *random) integer(most int) int {
	return r.below(2*most+1) - most
}

// gather returns a gather with a width and some holes, whose offsets move traces within the width or beyond.
func (r *random) gather(width, most int) trace.Shot {
	s := trace.Shot{Name: "r"}
	for range 1 + r.below(6) {
		t := trace.Trace{Header: [8]int{r.integer(3), r.integer(3), r.integer(5), r.integer(5), r.below(60), 7, 8, 9}, Hole: r.below(4) == 0}
		if n := len(s.Traces); n > 0 && r.below(4) == 0 {
			t.Header = s.Traces[n-1].Header
		}
		for range width {
			if !t.Hole {
				t.Samples = append(t.Samples, samples(r.integer(most))...)
			}
		}
		s.Traces = append(s.Traces, t)
	}
	return s
}

// setting returns a setting whose fan has at most so many rows.
func (r *random) setting(rows int) velocity.Setting {
	x := velocity.Setting{Window: r.below(4), Stretch: r.below(8), Every: 1 + r.below(4)}
	v := 0
	for range 1 + r.below(rows) {
		v += 1 + r.below(4)
		x.Fan = append(x.Fan, v)
	}
	return x
}

// panel returns a panel with so many times and rows, and scores up to a greatest one.
func (r *random) panel(times, rows, most int) [][]int {
	p := flat(times, rows)
	for t := range p {
		for row := range p[t] {
			p[t][row] = r.below(most + 1)
		}
	}
	return p
}

// limits returns limits up to a greatest one.
func (r *random) limits(most int) velocity.Limits {
	return limits(r.below(most+1), r.below(most+1))
}

// path returns so many rows of a panel.
func (r *random) path(times, rows int) []int {
	var l []int
	for range times {
		l = append(l, r.below(rows))
	}
	return l
}

// picks returns at most so many picks with small numbers.
func (r *random) picks(most int) []velocity.Pick {
	var l []velocity.Pick
	time := 0
	for range r.below(most + 1) {
		time += 1 + r.below(2)
		l = append(l, pick(time, 1+r.below(6), r.below(3)))
	}
	return l
}

// bounds returns bounds with small numbers.
func (r *random) bounds() api.Interval {
	low := 1 + r.below(5)
	return span(low, low+r.below(5))
}
