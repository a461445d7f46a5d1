package image_test

import (
	"math"
	"slices"
	"testing"

	"moveout/api"
	"moveout/image"
)

// P7.2: Model.
func TestModel(t *testing.T) {
	digits := ints(1, 10, 100, 1000)
	for _, x := range []struct {
		s     image.Survey
		model []int
		want  [][]int
	}{
		{surveyS(3), digits, [][]int{{0, 1, 0, 0, 100, 0}}}, {surveyS(4), digits, [][]int{{0, 11, 0, 0, 100, 1000}}}, {surveyS(2), digits, [][]int{{0, 0, 0, 0, 0, 0}}}, {surveyS(4), ints(-1000, 1000, 0, -1), [][]int{{0, 0, 0, 0, 0, -1}}},
		{surveyT(), digits, [][]int{{0, 11, 0, 0, 100, 1000}, nil, {0, 0, 0, 1011, 100, 0}}}, {image.Survey{Unit: 1, Length: 1}, digits, nil}, {image.Survey{Unit: 1, Length: 1, Pairs: []image.Pair{hole(0, 1)}}, digits, [][]int{nil}},
	} {
		l, e := image.Model(groundG(), x.s, x.model)
		ok(t, "Model", e)
		same(t, "Model", l, x.want)
	}
	// the greatest sum: all cells have the same sample
	all := image.Survey{Unit: 1000, Length: 1, Most: 256, Pairs: []image.Pair{pair(0, 0)}}
	l, e := image.Model(even(16, 16, 1), all, slices.Repeat(ints(-1000), 256))
	ok(t, "Model", e)
	same(t, "Model with the greatest integers", l, [][]int{{-256000}})
}

// P7.2: Image and Flat.
func TestImage(t *testing.T) {
	most := 1 << 20
	twice := surveyS(4)
	twice.Pairs = slices.Repeat(twice.Pairs, 16)
	for _, x := range []struct {
		s    image.Survey
		data [][]int
		want []int
		flat []int
	}{
		{surveyS(3), dataS(), ints(5, 0, 7, 0), ints(0, 5, 0, 0, 7, 9)}, {surveyS(4), dataS(), ints(5, 5, 7, 9), ints(0, 5, 0, 0, 7, 9)}, {surveyS(2), dataS(), ints(0, 0, 0, 0), ints(0, 5, 0, 0, 7, 9)},
		{surveyT(), dataT(), ints(72, 72, 705, 76), ints(1, 2, 3, 4, 5, 6, -7, 0, 7, 70, 700, 7000)}, {image.Survey{Unit: 1, Length: 1}, nil, ints(0, 0, 0, 0), nil}, {image.Survey{Unit: 1, Length: 1, Pairs: []image.Pair{hole(0, 1), hole(0, 1)}}, [][]int{nil, {}}, ints(0, 0, 0, 0), nil},
		{twice, slices.Repeat([][]int{{0, most, 0, 0, -most, 1}}, 16), ints(16*most, 16*most, -16*most, 16), slices.Repeat(ints(0, most, 0, 0, -most, 1), 16)},
	} {
		l, e := image.Image(groundG(), x.s, x.data)
		ok(t, "Image", e)
		same(t, "Image", l, x.want)
		l, e = image.Flat(groundG(), x.s, x.data)
		ok(t, "Flat", e)
		same(t, "Flat", l, x.flat)
	}
}

// P7.2: Tile.
func TestTile(t *testing.T) {
	for rows, want := range map[api.Span][]int{{From: 0, To: 2}: {5, 0, 7, 0}, {From: 0, To: 1}: {5, 0}, {From: 1, To: 2}: {7, 0}, {}: nil, {From: 1, To: 1}: nil, {From: 2, To: 2}: nil} {
		l, e := image.Tile(groundG(), surveyS(3), dataS(), rows)
		ok(t, "Tile", e)
		same(t, "Tile", l, want)
	}
	// a tile is one of rows, not of columns
	wide := ground(3, 2, 1, 1, 1, 1, 1, 1)
	fine := image.Survey{Unit: 1, Length: 30, Most: 30, Pairs: []image.Pair{pair(0, 0)}}
	data := [][]int{make([]int, 30)}
	for at := range data[0] {
		data[0][at] = at
	}
	for rows, want := range map[api.Span][]int{{From: 0, To: 1}: {0, 8, 16}, {From: 1, To: 2}: {8, 12, 20}} {
		l, e := image.Tile(wide, fine, data, rows)
		ok(t, "Tile", e)
		same(t, "Tile", l, want)
	}
	for _, rows := range badSpans {
		l, e := image.Tile(groundG(), surveyT(), dataT(), rows)
		fails(t, "Tile of bad rows", e, api.ErrSpan, l)
	}
	l, e := image.Tile(wide, fine, data, api.Span{From: 0, To: 3})
	fails(t, "Tile of as many rows as columns", e, api.ErrSpan, l)
}

// P7.2: Model, Image, Tile and Flat follow their definitions.
func TestOperatorsByDefinition(t *testing.T) {
	r := random(6)
	for range 150 {
		g := r.ground(4, 1+r.below(30))
		s := r.survey(g, 4)
		model, data := r.integers(len(g.Slow), 1000), r.traces(s, 1<<20)
		traces, e := image.Model(g, s, model)
		ok(t, "Model", e)
		same(t, "Model", traces, modelOf(g, s, model))
		want := imageOf(g, s, data)
		l, e := image.Image(g, s, data)
		ok(t, "Image", e)
		same(t, "Image", l, want)
		for from := range g.Rows + 1 {
			for to := from; to <= g.Rows; to++ {
				l, e := image.Tile(g, s, data, api.Span{From: from, To: to})
				ok(t, "Tile", e)
				same(t, "Tile", l, want[from*g.Columns:to*g.Columns])
			}
		}
		l, e = image.Flat(g, s, data)
		ok(t, "Flat", e)
		same(t, "Flat", l, flatOf(data))
	}
}

// P7.2, P7.3: the errors of grounds and surveys, of models and of traces, in their order.
func TestOperatorErrors(t *testing.T) {
	for _, x := range badGrounds() {
		operatorsFail(t, x.what, x.g, image.Survey{}, make([]int, 5), [][]int{{1 << 21}}, x.e)
	}
	for _, x := range badSurveys() {
		operatorsFail(t, x.what, groundG(), x.s, make([]int, 5), [][]int{{1 << 21}}, x.e)
	}
	for _, x := range badModels() {
		l, e := image.Model(groundG(), surveyT(), x.model)
		fails(t, "Model of "+x.what, e, x.e, l)
	}
	for _, x := range badTracesList() {
		l, e := image.Image(groundG(), surveyT(), x.data)
		fails(t, "Image of "+x.what, e, x.e, l)
		l, e = image.Tile(groundG(), surveyT(), x.data, api.Span{From: -1})
		fails(t, "Tile of "+x.what, e, x.e, l)
		l, e = image.Flat(groundG(), surveyT(), x.data)
		fails(t, "Flat of "+x.what, e, x.e, l)
	}
}

// operatorsFail checks the error of a ground or a survey that comes before all others, in all functions that have one.
func operatorsFail(t *testing.T, what string, g image.Ground, s image.Survey, model []int, data [][]int, want api.Errno) {
	t.Helper()
	traces, e := image.Model(g, s, model)
	fails(t, "Model with "+what, e, want, traces)
	l, e := image.Image(g, s, data)
	fails(t, "Image with "+what, e, want, l)
	l, e = image.Tile(g, s, data, api.Span{From: -1})
	fails(t, "Tile with "+what, e, want, l)
	l, e = image.Flat(g, s, data)
	fails(t, "Flat with "+what, e, want, l)
	n, e := image.Misfit(g, s, model, data)
	fails(t, "Misfit with "+what, e, want, n)
	n, e = image.Bound(g, s, data, data)
	fails(t, "Bound with "+what, e, want, n)
	x, e := image.Amplitude(g, s, data, -1)
	fails(t, "Amplitude with "+what, e, want, x)
}

// P7.2: Inner.
func TestInner(t *testing.T) {
	most := 1 << 24
	large, small := slices.Repeat(ints(most), 4096), slices.Repeat(ints(-most), 4096)
	for _, x := range []struct {
		a, b []int
		want int
		e    api.Errno
	}{
		{nil, nil, 0, api.OK}, {ints(), nil, 0, api.OK}, {ints(1, 2), ints(3, -4), -5, api.OK}, {ints(705), ints(1), 705, api.OK}, {ints(5, 0, 7, 0), ints(1, 10, 100, 1000), 705, api.OK}, {large, large, 1 << 60, api.OK}, {large, small, -1 << 60, api.OK},
		{ints(1), nil, 0, api.ErrShape}, {nil, ints(1), 0, api.ErrShape}, {make([]int, 4097), make([]int, 4096), 0, api.ErrShape}, {make([]int, 4097), make([]int, 4098), 0, api.ErrShape}, {ints(most+1, 0), ints(0), 0, api.ErrShape},
		{make([]int, 4097), make([]int, 4097), 0, api.ErrMany}, {slices.Repeat(ints(most+1), 4097), make([]int, 4097), 0, api.ErrMany},
		{ints(0, most+1), ints(0, 0), 0, api.ErrRange}, {ints(-most - 1), ints(0), 0, api.ErrRange}, {ints(0, 0), ints(most+1, 0), 0, api.ErrRange}, {ints(0, 0), ints(0, -most-1), 0, api.ErrRange}, {ints(math.MinInt), ints(math.MaxInt), 0, api.ErrRange}, {ints(0), ints(math.MinInt), 0, api.ErrRange},
	} {
		n, e := image.Inner(x.a, x.b)
		fails(t, "Inner", e, x.e, n)
		same(t, "Inner", n, x.want)
	}
	r := random(7)
	for range 50 {
		a := r.integers(r.below(50), 1<<24)
		b := r.integers(len(a), 1<<24)
		n, e := image.Inner(a, b)
		ok(t, "Inner", e)
		same(t, "Inner", n, innerOf(a, b))
	}
}
