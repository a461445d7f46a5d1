package filter_test

import (
	"math"
	"math/big"
	"slices"
	"testing"

	"moveout/api"
	"moveout/filter"
)

// badFits returns lists with each error of a fitting list, and with two where their order matters.
func badFits() []badList {
	return append(badLists(),
		badList{"nothing", nil, api.ErrShort},
		badList{"two samples", samples(1, 2), api.ErrShort},
		badList{"two samples out of range", samples(1, 128), api.ErrShort},
		badList{"two samples, one bad", []float32{1, nan}, api.ErrForm},
		badList{"33 samples", full(33, 1), api.ErrLarge},
		badList{"33 samples out of range", full(33, 128), api.ErrLarge},
		badList{"33 samples, the last one bad", append(full(32, 1), endless), api.ErrForm},
		badList{"1024 samples", full(1024, 1), api.ErrLarge},
		badList{"128", samples(1, 2, 3, 128), api.ErrRange},
		badList{"-128", samples(-128, 2, 3), api.ErrRange},
		badList{"16384", samples(1, 1, 2, 16384, 5, 8), api.ErrRange},
	)
}

// P5.3: Predict and Error.
func TestPredict(t *testing.T) {
	for _, x := range []struct {
		l    []int
		want filter.Prediction
		e    api.Ratio
	}{
		{[]int{1, 1, 2, 3, 5, 8}, filter.Prediction{A: 1, B: 1, Den: 1}, api.Ratio{Num: 0, Den: 1}},
		{[]int{1, 1, 2, 3, 5, 9}, filter.Prediction{A: 4, B: 2, Den: 3}, api.Ratio{Num: 1, Den: 3}},
		{[]int{1, 0, 0, 1}, filter.Prediction{}, api.Ratio{}},
		{[]int{1, 0, 1, 0}, filter.Prediction{A: 0, B: 1, Den: 1}, api.Ratio{Num: 0, Den: 1}},
		{[]int{0, 1, 0, 0}, filter.Prediction{A: 0, B: 0, Den: 1}, api.Ratio{Num: 0, Den: 1}},
		{[]int{1, 1, 0, 0, 1}, filter.Prediction{A: 0, B: 0, Den: 1}, api.Ratio{Num: 1, Den: 1}},
		{[]int{0, 1, 2, 0}, filter.Prediction{A: 2, B: -4, Den: 1}, api.Ratio{Num: 0, Den: 1}},
		{[]int{4, 2, 1, 1}, filter.Prediction{}, api.Ratio{}},
		{[]int{127, -127, 126}, filter.Prediction{}, api.Ratio{}},
		{[]int{127, -127, 126, 1}, filter.Prediction{A: -16129, B: -16003, Den: 127}, api.Ratio{Num: 0, Den: 1}},
	} {
		p, e := filter.Predict(samples(x.l...))
		y, e2 := filter.Error(samples(x.l...))
		if x.want == (filter.Prediction{}) {
			fails(t, "Predict of a singular list", p, e, api.ErrSingular)
			fails(t, "Error of a singular list", y, e2, api.ErrSingular)
			continue
		}
		ok(t, "Predict", e)
		same(t, "Predict", []any{x.l, p}, []any{x.l, x.want})
		ok(t, "Error", e2)
		same(t, "Error", []any{x.l, y}, []any{x.l, x.e})
	}
}

// P5.3: the errors of Predict, CheckPrediction and Error.
func TestPredictErrors(t *testing.T) {
	for _, x := range badFits() {
		p, e := filter.Predict(x.l)
		fails(t, "Predict of "+x.what, p, e, x.e)
		y, e := filter.Error(x.l)
		fails(t, "Error of "+x.what, y, e, x.e)
		same(t, "CheckPrediction of "+x.what, filter.CheckPrediction(x.l, filter.Prediction{Den: 1}), x.e)
		same(t, "CheckPrediction of "+x.what+" with a bad prediction", filter.CheckPrediction(x.l, filter.Prediction{}), x.e)
	}
	for _, l := range [][]int{{1, 2, 4, 8}, {5, -7, 9}, {0, 0, 0}, {0, 0, 0, 0, 5}, {3, 0, 0, 0}, {0, 0, 3, 3}, {1, 1, 1, 1, 1, 1}, {1, -1, 1, -1, 100}, integers(full(32, 127)), make([]int, 32)} {
		p, e := filter.Predict(samples(l...))
		fails(t, "Predict of a singular list", p, e, api.ErrSingular)
		y, e := filter.Error(samples(l...))
		fails(t, "Error of a singular list", y, e, api.ErrSingular)
	}
}

// P5.3: the prediction and its error are those of the definition, with numbers that fit.
func TestPredictByDefinition(t *testing.T) {
	r := random(6)
	singular, even := 0, 0
	for i := range 1500 {
		l := r.numbers(3+r.below(30), []int{1, 2, 9, 127}[r.below(4)])
		if i%3 == 0 {
			l = r.numbers(3+r.below(3), 1)
		}
		p, e := filter.Predict(samples(l...))
		if isSingular(l) {
			singular++
			fails(t, "Predict of a singular list", p, e, api.ErrSingular)
			continue
		}
		ok(t, "Predict", e)
		checkLeast(t, l, p)
		if p.A%2 == 0 && p.Den%2 == 0 || p.B%2 == 0 && p.Den%2 == 0 {
			even++
		}
	}
	if singular < 100 || singular > 1000 {
		t.Errorf("%d lists were singular", singular)
	}
	// Only then is it seen that a divisor has to divide all three numbers.
	if even < 50 {
		t.Errorf("%d predictions have two even numbers", even)
	}
}

// checkLeast checks that a prediction is in its ranges, in lowest terms, that its differences have the sum 0 with what they are predicted by, and that its error is the least one.
func checkLeast(t *testing.T, l []int, p filter.Prediction) {
	t.Helper()
	if max(p.A, -p.A) > filter.MaxNum || max(p.B, -p.B) > filter.MaxNum || p.Den < 1 || p.Den > filter.MaxDen {
		t.Errorf("Predict of %v: %v is not in its ranges", l, p)
	}
	d := new(big.Int).GCD(nil, nil, big.NewInt(int64(p.A)), big.NewInt(int64(p.B)))
	d.GCD(nil, nil, d, big.NewInt(int64(p.Den)))
	same(t, "the divisor of a prediction", d.Int64(), int64(1))
	first, second := new(big.Rat), new(big.Rat)
	for n := 2; n < len(l); n++ {
		x := new(big.Rat).Mul(ratio(p.A, p.Den), ratio(l[n-1], 1))
		x.Add(x, new(big.Rat).Mul(ratio(p.B, p.Den), ratio(l[n-2], 1)))
		x.Sub(ratio(l[n], 1), x)
		first.Add(first, new(big.Rat).Mul(x, ratio(l[n-1], 1)))
		second.Add(second, new(big.Rat).Mul(x, ratio(l[n-2], 1)))
	}
	same(t, "the sums of the differences", []any{l, p, first.Sign(), second.Sign()}, []any{l, p, 0, 0})
	same(t, "CheckPrediction of Predict", filter.CheckPrediction(samples(l...), p), api.OK)
	y, e := filter.Error(samples(l...))
	ok(t, "Error", e)
	want := errorOf(l, ratio(p.A, p.Den), ratio(p.B, p.Den))
	same(t, "Error", []any{l, y}, []any{l, api.Ratio{Num: int(want.Num().Int64()), Den: int(want.Denom().Int64())}})
}

// P5.3: CheckPrediction returns the error of a prediction.
func TestCheckPredictionErrors(t *testing.T) {
	fib := samples(1, 1, 2, 3, 5, 8)
	for _, x := range []struct {
		p filter.Prediction
		e api.Errno
	}{
		{filter.Prediction{A: 1, B: 1, Den: 1}, api.OK},
		{filter.Prediction{A: filter.MaxNum + 1, B: 1, Den: 1}, api.ErrRange}, {filter.Prediction{A: -filter.MaxNum - 1, B: 1, Den: 1}, api.ErrRange}, {filter.Prediction{A: 1, B: filter.MaxNum + 1, Den: 1}, api.ErrRange}, {filter.Prediction{A: 1, B: -filter.MaxNum - 1, Den: 1}, api.ErrRange},
		{filter.Prediction{A: 1, B: 1}, api.ErrRange}, {filter.Prediction{A: 1, B: 1, Den: -1}, api.ErrRange}, {filter.Prediction{A: 1, B: 1, Den: filter.MaxDen + 1}, api.ErrRange}, {filter.Prediction{A: math.MinInt, B: math.MinInt, Den: math.MinInt}, api.ErrRange}, {filter.Prediction{A: math.MaxInt, B: math.MaxInt, Den: math.MaxInt}, api.ErrRange}, {filter.Prediction{A: 2, B: 2, Den: filter.MaxDen + 2}, api.ErrRange}, {filter.Prediction{}, api.ErrRange},
		{filter.Prediction{A: 2, B: 2, Den: 2}, api.ErrForm}, {filter.Prediction{A: -3, B: 6, Den: 9}, api.ErrForm}, {filter.Prediction{Den: 2}, api.ErrForm}, {filter.Prediction{A: 0, B: 4, Den: 6}, api.ErrForm}, {filter.Prediction{A: 4, B: 0, Den: 6}, api.ErrForm}, {filter.Prediction{A: filter.MaxNum, B: -filter.MaxNum, Den: filter.MaxDen}, api.ErrForm},
		{filter.Prediction{Den: 1}, api.ErrProof}, {filter.Prediction{A: 1, Den: 1}, api.ErrProof}, {filter.Prediction{B: 1, Den: 1}, api.ErrProof}, {filter.Prediction{A: 2, B: 1, Den: 1}, api.ErrProof}, {filter.Prediction{A: 1, B: 2, Den: 1}, api.ErrProof}, {filter.Prediction{A: 1, B: 1, Den: 2}, api.ErrProof}, {filter.Prediction{A: -1, B: -1, Den: 1}, api.ErrProof}, {filter.Prediction{A: 2, B: 2, Den: 3}, api.ErrProof}, {filter.Prediction{A: 2, B: 4, Den: 3}, api.ErrProof}, {filter.Prediction{A: 4, B: 2, Den: 3}, api.ErrProof},
		{filter.Prediction{A: filter.MaxNum, B: -filter.MaxNum, Den: 1}, api.ErrProof}, {filter.Prediction{A: filter.MaxNum - 1, B: filter.MaxNum - 1, Den: filter.MaxDen}, api.ErrProof}, {filter.Prediction{A: filter.MaxNum - 1, B: filter.MaxNum - 1, Den: filter.MaxDen - 1}, api.ErrProof}, {filter.Prediction{A: 1, B: 1, Den: filter.MaxDen}, api.ErrProof},
		// Each one of both sums alone is 0 for these.
		{filter.Prediction{A: 25, B: 0, Den: 39}, api.ErrProof},
	} {
		same(t, "CheckPrediction", []any{x.p, filter.CheckPrediction(fib, x.p)}, []any{x.p, x.e})
	}
	// the largest numbers of all
	for _, l := range [][]float32{full(32, 127), full(32, -127)} {
		for _, p := range []filter.Prediction{{A: filter.MaxNum, B: filter.MaxNum - 1, Den: filter.MaxDen}, {A: -filter.MaxNum, B: -filter.MaxNum + 1, Den: 1}, {A: filter.MaxNum, B: -filter.MaxNum + 1, Den: filter.MaxDen}} {
			same(t, "CheckPrediction of large numbers", filter.CheckPrediction(l, p), api.ErrProof)
		}
		same(t, "CheckPrediction of large numbers", filter.CheckPrediction(l, filter.Prediction{A: filter.MaxNum, B: 1 - filter.MaxNum, Den: 1}), api.OK)
	}
}

// P5.3: CheckPrediction asks both sums: a prediction for which only one of them is 0 has not the least error.
func TestCheckPredictionAsksBoth(t *testing.T) {
	r := random(7)
	tried := 0
	for range 300 {
		l := r.numbers(4+r.below(6), 9)
		m := func(i, j int) int {
			sum := 0
			for n := 2; n < len(l); n++ {
				sum += l[n-i] * l[n-j]
			}
			return sum
		}
		p, e := filter.Predict(samples(l...))
		for _, i := range []int{1, 2} {
			// with B 0 the sum with the integer i before is 0 for this A
			alone := ratio(m(0, i), 1)
			if m(1, i) == 0 || e != api.OK {
				continue
			}
			alone.Quo(alone, ratio(m(1, i), 1))
			other := filter.Prediction{A: int(alone.Num().Int64()), Den: int(alone.Denom().Int64())}
			if other != p {
				tried++
				same(t, "CheckPrediction of one sum", []any{l, other, filter.CheckPrediction(samples(l...), other)}, []any{l, other, api.ErrProof})
			}
		}
	}
	if tried < 200 {
		t.Errorf("%d predictions were tried alone", tried)
	}
}

// P5.3: of a singular list several predictions have the least error.
func TestCheckPredictionOfSingularLists(t *testing.T) {
	for _, x := range []struct {
		l []int
		p filter.Prediction
		e api.Errno
	}{
		{[]int{1, 2, 4, 8}, filter.Prediction{A: 2, Den: 1}, api.OK}, {[]int{1, 2, 4, 8}, filter.Prediction{B: 4, Den: 1}, api.OK}, {[]int{1, 2, 4, 8}, filter.Prediction{A: 1, B: 2, Den: 1}, api.OK}, {[]int{1, 2, 4, 8}, filter.Prediction{A: 3, B: 2, Den: 2}, api.OK}, {[]int{1, 2, 4, 8}, filter.Prediction{A: 1, Den: 1}, api.ErrProof}, {[]int{1, 2, 4, 8}, filter.Prediction{A: 4, Den: 2}, api.ErrForm},
		{[]int{0, 0, 5}, filter.Prediction{Den: 1}, api.OK}, {[]int{0, 0, 5}, filter.Prediction{A: -7, B: 9, Den: 4}, api.OK}, {[]int{2, 3, 5}, filter.Prediction{A: 1, B: 1, Den: 1}, api.OK}, {[]int{2, 3, 5}, filter.Prediction{A: 5, Den: 3}, api.OK}, {[]int{2, 3, 5}, filter.Prediction{A: 1, Den: 1}, api.ErrProof}, {[]int{1, -1, 1, -1, 100}, filter.Prediction{A: 98, Den: 3}, api.ErrProof}, {[]int{1, -1, 1, -1, 100}, filter.Prediction{A: -34, Den: 1}, api.OK},
	} {
		same(t, "CheckPrediction", []any{x.l, x.p, filter.CheckPrediction(samples(x.l...), x.p)}, []any{x.l, x.p, x.e})
	}
}

// P5.3: the numbers of predictions of the largest lists fit.
func TestPredictLargest(t *testing.T) {
	alternating := integers(full(32, 127))
	for n := range alternating {
		if n/2%2 == 1 {
			alternating[n] = -127
		}
	}
	late := slices.Clone(alternating)
	late[31], late[30] = 127, -126
	for _, l := range [][]int{alternating, late, append(integers(full(31, 127)), -127), append([]int{126}, integers(full(31, -127))...)} {
		p, e := filter.Predict(samples(l...))
		if isSingular(l) {
			fails(t, "Predict of a singular list", p, e, api.ErrSingular)
			continue
		}
		ok(t, "Predict", e)
		checkLeast(t, l, p)
	}
}
