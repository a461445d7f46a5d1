package filter

import (
	"moveout/api"
	"moveout/common"
	"moveout/trace"
)

// elements is how many elements a panel has: turned there and back, numbers are that many times what they were.
const elements = 16

// turned returns at each k, m the sum over all t, n of the number at t, n times the base to the power of k n + m t; the base is given as its exponent of i.
func turned(l [4][4]api.Gauss, base int) [4][4]api.Gauss {
	return rowsTurned(transposed(rowsTurned(l, base)), base)
}

func rowsTurned(l [4][4]api.Gauss, base int) [4][4]api.Gauss {
	for i, row := range l {
		l[i] = common.Turned(row, base)
	}
	return l
}

func transposed(l [4][4]api.Gauss) [4][4]api.Gauss {
	var out [4][4]api.Gauss
	for i, row := range l {
		for j, x := range row {
			out[j][i] = x
		}
	}
	return out
}

// eachOf returns what a function makes of each element of a square.
func eachOf[T, U any](l [4][4]T, f func(T) U) [4][4]U {
	var out [4][4]U
	for i, row := range l {
		for j, x := range row {
			out[i][j] = f(x)
		}
	}
	return out
}

// firstOf returns the error of the first element of a square that has one, row by row, or OK.
func firstOf[T any](l [4][4]T, check func(T) api.Errno) api.Errno {
	return common.FirstOf(l[:], func(row [4]T) api.Errno { return common.FirstOf(row[:], check) })
}

// checkPanel returns the first error of a panel, or OK.
func checkPanel(p [4][4]complex64) api.Errno {
	return firstOf(p, func(x complex64) api.Errno { return common.CheckElement(x, elements*common.MaxInteger) })
}

// Panel returns the panel of four traces of four samples.
func Panel(l [4][4]float32) ([4][4]complex64, api.Errno) {
	if e := firstOf(l, trace.CheckSample); e != api.OK {
		return [4][4]complex64{}, e
	}
	traces := eachOf(l, func(x float32) api.Gauss { return api.Gauss{Re: common.Integer(x)} })
	return eachOf(turned(traces, common.MinusI), common.Element), api.OK
}

// Unpanel returns the four traces of a panel.
func Unpanel(p [4][4]complex64) ([4][4]float32, api.Errno) {
	if e := checkPanel(p); e != api.OK {
		return [4][4]float32{}, e
	}
	given := eachOf(p, common.Gauss)
	traces := eachOf(turned(given, common.PlusI), func(x api.Gauss) api.Gauss { return api.Gauss{Re: x.Re / elements} })
	// Turned again the traces are the panel only if nothing was cut off, and no number had an imaginary part.
	if turned(traces, common.MinusI) != given {
		return [4][4]float32{}, api.ErrForm
	}
	l := eachOf(traces, func(x api.Gauss) float32 { return common.Sample(x.Re) })
	if firstOf(l, trace.CheckSample) != api.OK {
		return [4][4]float32{}, api.ErrForm
	}
	return l, api.OK
}

// Keep returns a panel of which some elements are kept.
func Keep(p [4][4]complex64, mask uint16) ([4][4]complex64, api.Errno) {
	if e := checkPanel(p); e != api.OK {
		return [4][4]complex64{}, e
	}
	kept := eachOf(p, common.Gauss)
	for i := range elements {
		if mask>>i&1 == 0 {
			kept[i/4][i%4] = api.Gauss{}
		}
	}
	return eachOf(kept, common.Element), api.OK
}
