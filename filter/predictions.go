package filter

import (
	"moveout/api"
	"moveout/common"
)

// checkFitting returns the first error of a fitting list, or OK.
func checkFitting(l []float32) api.Errno {
	if e := checkList(l); e != api.OK {
		return e
	}
	switch {
	case len(l) < 3:
		return api.ErrShort
	case len(l) > MaxFit:
		return api.ErrLarge
	}
	return common.FirstOf(l, func(x float32) api.Errno { return common.CheckRange(common.Integer(x), -MaxFitted, MaxFitted) })
}

// checkPrediction returns the first error of a prediction, or OK.
func checkPrediction(p Prediction) api.Errno {
	if e := common.First(common.CheckRange(p.A, -MaxNum, MaxNum), common.CheckRange(p.B, -MaxNum, MaxNum), common.CheckRange(p.Den, 1, MaxDen)); e != api.OK {
		return e
	}
	if p.lowest() != p {
		return api.ErrForm
	}
	return api.OK
}

// lowest returns a prediction in lowest terms.
func (p Prediction) lowest() Prediction {
	d := common.Divisor(p.A, p.B, p.Den)
	return Prediction{A: p.A / d, B: p.B / d, Den: p.Den / d}
}

// moments are the sums, over all indices of a list from 2 on, of the products of the integers i before the index and j before it.
type moments [3][3]int

func momentsOf(l []float32) moments {
	var m moments
	for _, w := range windows(common.Integers(l)) {
		for i, x := range w {
			for j, y := range w {
				m[i][j] += x * y
			}
		}
	}
	return m
}

// best returns the prediction with the least error, not in lowest terms; its Den is 0 if there are several.
func (m moments) best() Prediction {
	return Prediction{
		A:   m[0][1]*m[2][2] - m[0][2]*m[1][2],
		B:   m[0][2]*m[1][1] - m[0][1]*m[1][2],
		Den: m[1][1]*m[2][2] - m[1][2]*m[1][2],
	}
}

// isBest reports whether a prediction has the least error: if the sums of its differences times the integer 1 before the index, and times that 2 before it, are 0.
func (m moments) isBest(p Prediction) bool {
	for _, before := range [2]int{1, 2} {
		if m[0][before]*p.Den != m[1][before]*p.A+m[2][before]*p.B {
			return false
		}
	}
	return true
}

// fitted returns the moments of a fitting list and the prediction with the least error, in lowest terms.
func fitted(l []float32) (moments, Prediction, api.Errno) {
	if e := checkFitting(l); e != api.OK {
		return moments{}, Prediction{}, e
	}
	m := momentsOf(l)
	p := m.best()
	if p.Den == 0 {
		return moments{}, Prediction{}, api.ErrSingular
	}
	return m, p.lowest(), api.OK
}

// Predict returns the prediction with the least error.
func Predict(l []float32) (Prediction, api.Errno) {
	_, p, e := fitted(l)
	return p, e
}

// CheckPrediction returns OK for the prediction with the least error.
func CheckPrediction(l []float32, p Prediction) api.Errno {
	if e := common.First(checkFitting(l), checkPrediction(p)); e != api.OK {
		return e
	}
	if !momentsOf(l).isBest(p) {
		return api.ErrProof
	}
	return api.OK
}

// Error returns the least error of a prediction.
func Error(l []float32) (api.Ratio, api.Errno) {
	m, p, e := fitted(l)
	if e != api.OK {
		return api.Ratio{}, e
	}
	// The differences times what they are predicted by have the sum 0, so that the sum of their squares is that of the differences times the integers at the indices.
	return common.Lowest(api.Ratio{Num: m[0][0]*p.Den - m[0][1]*p.A - m[0][2]*p.B, Den: p.Den}), api.OK
}
