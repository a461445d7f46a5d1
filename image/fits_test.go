package image_test

import (
	"slices"
	"testing"

	"moveout/api"
	"moveout/image"
)

// P7.3: Misfit.
func TestMisfit(t *testing.T) {
	digits := ints(1, 10, 100, 1000)
	for _, x := range []struct {
		s     image.Survey
		model []int
		data  [][]int
		want  int
	}{
		{surveyS(3), digits, dataS(), 8746}, {surveyS(4), digits, dataS(), 36 + 8649 + 991*991}, {surveyS(3), ints(5, 1000, 7, -1000), dataS(), 81}, {surveyS(3), make([]int, 4), dataS(), 155}, {surveyT(), make([]int, 4), dataT(), 91 + 98 + 700*700 + 7000*7000 + 70*70}, {surveyT(), ints(0, 0, 0, 1000), dataT(), 1 + 4 + 9 + 16 + 25 + 994*994 + 98 + 930*930 + 700*700 + 7000*7000},
		{image.Survey{Unit: 1, Length: 1}, digits, nil, 0}, {image.Survey{Unit: 1, Length: 1, Pairs: []image.Pair{hole(0, 1)}}, digits, [][]int{nil}, 0},
	} {
		n, e := image.Misfit(groundG(), x.s, x.model, x.data)
		ok(t, "Misfit", e)
		same(t, "Misfit", n, x.want)
	}
	// the greatest differences
	all := image.Survey{Unit: 1000, Length: 1, Most: 256, Pairs: slices.Repeat([]image.Pair{pair(0, 0)}, 16)}
	n, e := image.Misfit(even(16, 16, 1), all, slices.Repeat(ints(-1000), 256), slices.Repeat([][]int{{1 << 20}}, 16))
	ok(t, "Misfit", e)
	same(t, "Misfit with the greatest integers", n, 16*(1<<20+256000)*(1<<20+256000))
}

// P7.3: the errors of Misfit.
func TestMisfitErrors(t *testing.T) {
	for _, x := range badModels() {
		n, e := image.Misfit(groundG(), surveyT(), x.model, nil)
		fails(t, "Misfit of "+x.what, e, x.e, n)
	}
	for _, x := range badTracesList() {
		n, e := image.Misfit(groundG(), surveyT(), make([]int, 4), x.data)
		fails(t, "Misfit from "+x.what, e, x.e, n)
	}
}

// P7.3: Bound.
func TestBound(t *testing.T) {
	nothing := [][]int{make([]int, 6)}
	most := 1 << 20
	twice := surveyS(4)
	twice.Pairs = slices.Repeat(twice.Pairs, 2)
	for _, x := range []struct {
		s          image.Survey
		data, dual [][]int
		want       int
	}{
		{surveyS(3), dataS(), [][]int{{0, 0, 0, 0, 0, 9}}, 81}, {surveyS(3), dataS(), [][]int{{0, 0, 0, 0, 0, 8}}, 80}, {surveyS(3), dataS(), [][]int{{0, 0, 0, 0, 0, 10}}, 80}, {surveyS(3), dataS(), [][]int{{1, 0, 0, 0, 0, 9}}, 80}, {surveyS(3), dataS(), [][]int{{0, 0, 0, 0, 0, -9}}, -243}, {surveyS(3), dataS(), nothing, 0}, {surveyS(2), dataS(), dataS(), 155},
		{surveyS(3), [][]int{{most, 0, most, most, 0, most}}, [][]int{{most, 0, most, most, 0, most}}, 4 * most * most}, {surveyS(3), [][]int{{most, 0, 0, 0, 0, 0}}, [][]int{{-most, 0, 0, 0, 0, 0}}, -3 * most * most},
		{image.Survey{Unit: 1, Length: 1}, nil, nil, 0}, {image.Survey{Unit: 1, Length: 1, Pairs: []image.Pair{hole(0, 1)}}, [][]int{nil}, [][]int{nil}, 0},
		// the images of two traces of the same pair take each other away
		{twice, [][]int{{0, 9, 0, 0, 0, 0}, {0, 1, 0, 0, 0, 0}}, [][]int{{0, 4, 0, 0, 0, 0}, {0, -4, 0, 0, 0, 0}}, 32},
	} {
		n, e := image.Bound(groundG(), x.s, x.data, x.dual)
		ok(t, "Bound", e)
		same(t, "Bound", n, x.want)
	}
}

// P7.3: the errors of Bound.
func TestBoundErrors(t *testing.T) {
	for _, x := range badTracesList() {
		n, e := image.Bound(groundG(), surveyT(), x.data, nil)
		fails(t, "Bound from "+x.what, e, x.e, n)
		n, e = image.Bound(groundG(), surveyT(), dataT(), x.data)
		fails(t, "Bound by "+x.what, e, x.e, n)
	}
	six := make([]int, 6)
	n, e := image.Bound(groundG(), surveyT(), [][]int{{1 << 21, 0, 0, 0, 0, 0}, nil, six}, nil)
	fails(t, "Bound from bad traces by none", e, api.ErrRange, n)
	for _, dual := range [][][]int{dataS(), {{0, 1, 0, 0, 0, 9}}, {{0, 0, 0, 0, 1, 0}}, {{0, 0, 0, 0, -1, 0}}, {{0, 1, 0, 0, -1, 0}}} {
		n, e := image.Bound(groundG(), surveyS(3), dataS(), dual)
		fails(t, "Bound by traces with an image", e, api.ErrProof, n)
	}
}

// P7.3: Amplitude.
func TestAmplitude(t *testing.T) {
	ratio := func(num, den int) api.Ratio { return api.Ratio{Num: num, Den: den} }
	for _, x := range []struct {
		s    image.Survey
		data [][]int
		cell int
		want api.Ratio
		e    api.Errno
	}{
		{surveyS(3), dataS(), 0, ratio(5, 1), api.OK}, {surveyS(3), dataS(), 2, ratio(7, 1), api.OK}, {surveyT(), dataT(), 0, ratio(36, 1), api.OK}, {surveyT(), dataT(), 2, ratio(705, 2), api.OK}, {surveyT(), dataT(), 3, ratio(38, 1), api.OK}, {surveyT(), [][]int{{0, -3, 0, 0, 0, 0}, nil, {0, 0, 0, 0, 0, 0}}, 1, ratio(-3, 2), api.OK}, {surveyT(), [][]int{{0, 5, 0, 0, 0, 0}, nil, {0, 0, 0, -5, 0, 0}}, 1, ratio(0, 1), api.OK}, {surveyS(4), [][]int{{0, 0, 0, 0, 0, 0}}, 3, ratio(0, 1), api.OK},
		{surveyS(3), dataS(), 1, api.Ratio{}, api.ErrSingular}, {surveyS(3), dataS(), 3, api.Ratio{}, api.ErrSingular}, {image.Survey{Unit: 1, Length: 1}, nil, 0, api.Ratio{}, api.ErrSingular}, {image.Survey{Unit: 1, Length: 256, Most: 256, Pairs: []image.Pair{hole(0, 1)}}, [][]int{nil}, 0, api.Ratio{}, api.ErrSingular},
	} {
		got, e := image.Amplitude(groundG(), x.s, x.data, x.cell)
		fails(t, "Amplitude", e, x.e, got)
		same(t, "Amplitude", got, x.want)
	}
	for _, cell := range badCells {
		got, e := image.Amplitude(groundG(), surveyT(), dataT(), cell)
		fails(t, "Amplitude of a bad cell", e, api.ErrUnknown, got)
	}
	for _, x := range badTracesList() {
		got, e := image.Amplitude(groundG(), surveyT(), x.data, -1)
		fails(t, "Amplitude from "+x.what, e, x.e, got)
	}
}

// P7.3: Misfit, Bound and Amplitude follow their definitions.
func TestFitsByDefinition(t *testing.T) {
	r := random(8)
	proofs, singular := 0, 0
	for range 200 {
		g := r.ground(3, 1+r.below(30))
		s := r.survey(g, 4)
		model, data, dual := r.integers(len(g.Slow), 1000), r.traces(s, 1<<20), r.traces(s, 1)
		n, e := image.Misfit(g, s, model, data)
		ok(t, "Misfit", e)
		same(t, "Misfit", n, misfitOf(g, s, model, data))
		n, e = image.Bound(g, s, data, dual)
		if slices.Max(imageOf(g, s, dual)) == 0 && slices.Min(imageOf(g, s, dual)) == 0 {
			proofs++
			ok(t, "Bound", e)
			same(t, "Bound", n, 2*innerOf(flatOf(dual), flatOf(data))-innerOf(flatOf(dual), flatOf(dual)))
		} else {
			fails(t, "Bound", e, api.ErrProof, n)
		}
		cell, count := r.cell(g), 0
		for _, p := range s.Pairs {
			if delaysOf(g, s, p)[cell] >= 0 {
				count++
			}
		}
		x, e := image.Amplitude(g, s, data, cell)
		if count == 0 {
			singular++
			fails(t, "Amplitude", e, api.ErrSingular, x)
			continue
		}
		ok(t, "Amplitude", e)
		same(t, "Amplitude", x.Num*count == imageOf(g, s, data)[cell]*x.Den && x.Den > 0 && count%x.Den == 0, true)
		for by := 2; by <= 4; by++ {
			same(t, "Amplitude is in lowest terms", x.Num%by == 0 && x.Den%by == 0, false)
		}
	}
	if proofs < 20 || proofs > 180 || singular < 20 || singular > 180 {
		t.Errorf("%d dual traces proved something, %d cells had no samples", proofs, singular)
	}
}
