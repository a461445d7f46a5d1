package image_test

import (
	"math"
	"reflect"
	"slices"
	"testing"

	"moveout/api"
	"moveout/image"
)

var (
	nan     = float32(math.NaN())
	endless = float32(math.Inf(1))
	minus0  = float32(math.Copysign(0, -1))
)

// same compares a result with the expected one; nil and empty lists are equal.
func same(t *testing.T, what string, got, want any) {
	t.Helper()
	if !reflect.DeepEqual(plain(got), plain(want)) {
		t.Errorf("%s: got %v, want %v", what, got, want)
	}
}

// bare returns a copy of a list, which is nil if the list is empty.
func bare[T any](l []T) []T {
	return append([]T(nil), l...)
}

// plain returns a value with nil in place of empty lists, as far as the tests compare such values.
func plain(x any) any {
	switch v := x.(type) {
	case []any:
		out := make([]any, len(v))
		for i := range v {
			out[i] = plain(v[i])
		}
		return out
	case image.Ground:
		v.Slow = bare(v.Slow)
		return v
	case [][]int:
		out := bare(v)
		for i := range out {
			out[i] = bare(out[i])
		}
		return out
	case []image.Pair:
		return bare(v)
	case []int:
		return bare(v)
	}
	return x
}

// ok fails the test if there is an error.
func ok(t *testing.T, what string, e api.Errno) {
	t.Helper()
	if e != api.OK {
		t.Fatalf("%s: got the error %d", what, e)
	}
}

// fails checks an error, and that all results beside it are zero values.
func fails(t *testing.T, what string, e, want api.Errno, results ...any) {
	t.Helper()
	if e != want {
		t.Errorf("%s: got the error %d, want %d", what, e, want)
	}
	for _, got := range results {
		if e != api.OK && !reflect.ValueOf(plain(got)).IsZero() {
			t.Errorf("%s: got %v beside the error %d", what, got, e)
		}
	}
}

// ints returns a list of integers.
func ints(l ...int) []int { return l }

// ground returns a ground.
func ground(columns, rows int, slow ...int) image.Ground {
	return image.Ground{Columns: columns, Rows: rows, Slow: slow}
}

// groundG returns the ground G of the chapter.
func groundG() image.Ground {
	return ground(2, 2, 1, 2, 3, 4)
}

// even returns a ground whose cells are all alike.
func even(columns, rows, slow int) image.Ground {
	return ground(columns, rows, slices.Repeat(ints(slow), columns*rows)...)
}

// pair returns a pair that is no hole.
func pair(source, receiver int) image.Pair {
	return image.Pair{Source: source, Receiver: receiver}
}

// hole returns a pair that is one.
func hole(source, receiver int) image.Pair {
	return image.Pair{Source: source, Receiver: receiver, Hole: true}
}

// surveyS returns the survey S of the chapter, with another greatest step.
func surveyS(most int) image.Survey {
	return image.Survey{Unit: 5, Length: 6, Most: most, Pairs: []image.Pair{pair(0, 1)}}
}

// surveyT returns a survey of the ground G with three pairs, one of which is a hole.
func surveyT() image.Survey {
	return image.Survey{Unit: 5, Length: 6, Most: 4, Pairs: []image.Pair{pair(0, 1), hole(2, 2), pair(3, 0)}}
}

// dataS are the traces of the chapter, dataT some for the survey T.
func dataS() [][]int { return [][]int{{0, 5, 0, 0, 7, 9}} }

func dataT() [][]int { return [][]int{{1, 2, 3, 4, 5, 6}, nil, {-7, 0, 7, 70, 700, 7000}} }

// badGround is a ground that is none, with its error.
type badGround struct {
	what string
	g    image.Ground
	e    api.Errno
}

// outOf are numbers that are in no range from 0 or 1 to most.
func outOf(most int) []int {
	return []int{-1, most + 1, math.MinInt, math.MaxInt}
}

// badGrounds returns grounds with each error of CheckGround, and with two where their order matters.
func badGrounds() []badGround {
	l := []badGround{
		{"the zero value", image.Ground{}, api.ErrRange},
		{"a column without rows", ground(1, 0), api.ErrRange},
		{"a row without columns", ground(0, 1), api.ErrRange},
		{"the size before the shape", ground(17, 1, 1), api.ErrRange},
		{"the size with as many slownesses", ground(-1, -1, 1), api.ErrRange},
		{"a size that wraps around", ground(1<<32, 1<<32), api.ErrRange},
		{"no slownesses", ground(1, 1), api.ErrShape},
		{"too few slownesses", ground(2, 2, 1, 2, 3), api.ErrShape},
		{"too many slownesses", ground(2, 2, 1, 2, 3, 4, 5), api.ErrShape},
		{"the shape before a slowness", ground(2, 2, 0), api.ErrShape},
		{"the slowness 0", ground(1, 1, 0), api.ErrRange},
	}
	for _, n := range outOf(16) {
		l = append(l, badGround{"bad columns", ground(n, 1, 1), api.ErrRange}, badGround{"bad rows", ground(1, n, 1), api.ErrRange})
	}
	for _, n := range outOf(100) {
		l = append(l, badGround{"a slowness", ground(2, 2, 1, 1, 1, n), api.ErrRange})
	}
	return l
}

// badCells are numbers that are no cells of a ground of four cells.
var badCells = []int{-1, 4, math.MinInt, math.MaxInt}

// badSurvey is a survey of the ground G that is none, with its error.
type badSurvey struct {
	what string
	s    image.Survey
	e    api.Errno
}

// badSurveys returns surveys with each error of CheckSurvey behind those of the ground, and with two where their order matters.
func badSurveys() []badSurvey {
	change := func(f func(s *image.Survey)) image.Survey {
		s := surveyT()
		f(&s)
		return s
	}
	l := []badSurvey{
		{"the zero value", image.Survey{}, api.ErrRange},
		{"the unit 0", change(func(s *image.Survey) { s.Unit = 0 }), api.ErrRange},
		{"the length 0", change(func(s *image.Survey) { s.Length = 0 }), api.ErrRange},
		{"17 pairs", change(func(s *image.Survey) { s.Pairs = make([]image.Pair, 17) }), api.ErrMany},
		{"17 bad pairs", change(func(s *image.Survey) { s.Pairs = slices.Repeat([]image.Pair{pair(9, 9)}, 17) }), api.ErrMany},
		{"the unit before the pairs", change(func(s *image.Survey) { s.Unit, s.Pairs = 0, make([]image.Pair, 17) }), api.ErrRange},
		{"the length before the pairs", change(func(s *image.Survey) { s.Length, s.Pairs = 0, make([]image.Pair, 17) }), api.ErrRange},
		{"the step before the pairs", change(func(s *image.Survey) { s.Most, s.Pairs = -1, make([]image.Pair, 17) }), api.ErrRange},
		{"the step before a pair", change(func(s *image.Survey) { s.Most, s.Pairs[0].Source = 257, 4 }), api.ErrRange},
	}
	for _, n := range outOf(1000) {
		l = append(l, badSurvey{"a unit", change(func(s *image.Survey) { s.Unit = n }), api.ErrRange})
	}
	for _, n := range outOf(256) {
		l = append(l, badSurvey{"a length", change(func(s *image.Survey) { s.Length = n }), api.ErrRange}, badSurvey{"a step", change(func(s *image.Survey) { s.Most = n }), api.ErrRange})
	}
	for _, n := range badCells {
		l = append(l,
			badSurvey{"a source", change(func(s *image.Survey) { s.Pairs[0].Source = n }), api.ErrUnknown},
			badSurvey{"a receiver", change(func(s *image.Survey) { s.Pairs[2].Receiver = n }), api.ErrUnknown},
			badSurvey{"the source of a hole", change(func(s *image.Survey) { s.Pairs[1].Source = n }), api.ErrUnknown},
			badSurvey{"the receiver of a hole", change(func(s *image.Survey) { s.Pairs[1].Receiver = n }), api.ErrUnknown},
		)
	}
	return l
}

// badModel is a model of the ground G that is none, with its error.
type badModel struct {
	what  string
	model []int
	e     api.Errno
}

func badModels() []badModel {
	l := []badModel{
		{"nil", nil, api.ErrShape}, {"too few integers", ints(1, 2, 3), api.ErrShape}, {"too many integers", make([]int, 5), api.ErrShape}, {"the shape before an integer", ints(1001), api.ErrShape},
		{"the first integer", ints(1001, 0, 0, 0), api.ErrRange},
	}
	for _, n := range []int{1001, -1001, math.MinInt, math.MaxInt} {
		l = append(l, badModel{"an integer", ints(0, 0, 0, n), api.ErrRange})
	}
	return l
}

// badTraces is traces for the survey T that are none, with their error.
type badTraces struct {
	what string
	data [][]int
	e    api.Errno
}

func badTracesList() []badTraces {
	six := make([]int, 6)
	l := []badTraces{
		{"nil", nil, api.ErrShape}, {"too few traces", [][]int{six, nil}, api.ErrShape}, {"too many traces", [][]int{six, nil, six, nil}, api.ErrShape}, {"no integers", make([][]int, 3), api.ErrShape},
		{"too few integers", [][]int{six, nil, six[:5]}, api.ErrShape}, {"too many integers", [][]int{make([]int, 7), nil, six}, api.ErrShape}, {"integers in a hole", [][]int{six, six, six}, api.ErrShape}, {"an integer in a hole", [][]int{six, {0}, six}, api.ErrShape},
		{"a later shape before an integer", [][]int{{0, 0, 0, 0, 0, 1<<20 + 1}, nil, nil}, api.ErrShape}, {"the hole before an integer", [][]int{{-1<<20 - 1, 0, 0, 0, 0, 0}, {1}, six}, api.ErrShape},
	}
	for _, n := range []int{1<<20 + 1, -1<<20 - 1, math.MinInt, math.MaxInt} {
		l = append(l, badTraces{"an integer", [][]int{six, nil, {0, 0, 0, 0, 0, n}}, api.ErrRange}, badTraces{"the first integer", [][]int{{n, 0, 0, 0, 0, 0}, nil, six}, api.ErrRange})
	}
	return l
}

// badSpans are spans that are none of the rows of the ground G.
var badSpans = []api.Span{{From: -1, To: 1}, {From: -2, To: -1}, {From: 1, To: 0}, {From: 0, To: 3}, {From: 3, To: 3}, {From: 2, To: 1}, {From: math.MinInt, To: 0}, {From: 0, To: math.MaxInt}, {From: math.MaxInt, To: math.MaxInt}, {From: math.MaxInt, To: math.MinInt}, {From: 0, To: math.MinInt}}

// badPanel is a panel that is none, with its error.
type badPanel struct {
	what string
	p    [4]complex64
	e    api.Errno
}

// badPanels returns panels with each error, and with two where their order matters.
func badPanels() []badPanel {
	nowhere, odd := complex(nan, 0), complex64(complex(0, 0.03125))
	return []badPanel{
		{"NaN", [4]complex64{nowhere}, api.ErrForm}, {"a part i that is NaN", [4]complex64{3: complex(0, nan)}, api.ErrForm}, {"an infinite part", [4]complex64{1: complex(-endless, 0)}, api.ErrForm}, {"an infinite part i", [4]complex64{2: complex(0, endless)}, api.ErrForm},
		{"a part above", [4]complex64{4096.0625}, api.ErrRange}, {"a part below", [4]complex64{3: -4096.0625}, api.ErrRange}, {"a part i above", [4]complex64{2: complex(0, 4097)}, api.ErrRange}, {"a part i below", [4]complex64{2: complex(1, -4096.0625)}, api.ErrRange}, {"a part between", [4]complex64{1: 0.03125}, api.ErrRange}, {"a part i between", [4]complex64{1: odd}, api.ErrRange}, {"a part far above", [4]complex64{3: complex(math.MaxFloat32, 0)}, api.ErrRange}, {"the least part", [4]complex64{3: complex(0, math.SmallestNonzeroFloat32)}, api.ErrRange},
		{"both in one number", [4]complex64{complex(5000, nan)}, api.ErrForm}, {"both in one number, the other way round", [4]complex64{complex(nan, 5000)}, api.ErrForm},
		{"the range first", [4]complex64{0, odd, nowhere}, api.ErrRange}, {"the form first", [4]complex64{0, nowhere, odd}, api.ErrForm},
	}
}

// badLayers is layers that are none, with their error.
type badLayers struct {
	what   string
	layers []image.Layer
	e      api.Errno
}

func badLayersList() []badLayers {
	good := image.Layer{Thick: 1000, Slow: 100}
	l := []badLayers{
		{"17 layers", slices.Repeat([]image.Layer{good}, 17), api.ErrMany}, {"17 bad layers", make([]image.Layer, 17), api.ErrMany},
		{"the zero value", make([]image.Layer, 1), api.ErrRange}, {"a later slowness", []image.Layer{good, {Thick: 1}}, api.ErrRange},
	}
	for _, n := range outOf(1000) {
		l = append(l, badLayers{"a thickness", []image.Layer{good, {Thick: n, Slow: 1}}, api.ErrRange})
	}
	for _, n := range outOf(100) {
		l = append(l, badLayers{"a slowness", []image.Layer{{Slow: n}, good}, api.ErrRange})
	}
	return l
}

// random is a sequence of numbers that is the same in each run.
type random uint64

// below returns the next number from 0 to n - 1.
func (r *random) below(n int) int {
	*r = *r*6364136223846793005 + 1442695040888963407
	return int(uint64(*r) >> 33 % uint64(n))
}

// integer returns the next number from -most to most.
func (r *random) integer(most int) int {
	return r.below(2*most+1) - most
}

// integers returns so many numbers from -most to most.
func (r *random) integers(n, most int) []int {
	l := make([]int, n)
	for i := range l {
		l[i] = r.integer(most)
	}
	return l
}

// ground returns a ground with at most so many columns and rows, and slownesses up to a greatest one.
func (r *random) ground(side, slow int) image.Ground {
	g := ground(1+r.below(side), 1+r.below(side))
	for range g.Columns * g.Rows {
		g.Slow = append(g.Slow, 1+r.below(slow))
	}
	return g
}

// cell returns a cell of a ground.
func (r *random) cell(g image.Ground) int {
	return r.below(len(g.Slow))
}

// survey returns a survey of a ground with at most so many pairs, some of which are holes.
func (r *random) survey(g image.Ground, pairs int) image.Survey {
	s := image.Survey{Unit: 1 + r.below(40), Length: 1 + r.below(40), Most: r.below(8)}
	for range r.below(pairs + 1) {
		p := image.Pair{Source: r.cell(g), Receiver: r.cell(g), Hole: r.below(5) == 0}
		if n := len(s.Pairs); n > 0 && r.below(4) == 0 {
			p = s.Pairs[n-1]
		}
		s.Pairs = append(s.Pairs, p)
	}
	return s
}

// traces returns traces for a survey, with integers up to a greatest one.
func (r *random) traces(s image.Survey, most int) [][]int {
	data := make([][]int, len(s.Pairs))
	for i, p := range s.Pairs {
		if !p.Hole {
			data[i] = r.integers(s.Length, most)
		}
	}
	return data
}

// panel returns a panel whose parts have integers up to a greatest one.
func (r *random) panel(most int) [4]complex64 {
	var p [4]complex64
	for k := range p {
		p[k] = complex(float32(r.integer(most))/16, float32(r.integer(most))/16)
	}
	return p
}

// layers returns at most 16 layers.
func (r *random) layers() []image.Layer {
	l := make([]image.Layer, r.below(17))
	for i := range l {
		l[i] = image.Layer{Thick: r.below(1001), Slow: 1 + r.below(100)}
	}
	return l
}
