package trace

import (
	"moveout/api"
	"moveout/common"
)

// maxPanel is the greatest absolute integer of a part of a panel.
const maxPanel = 4 * maxInteger

// powers are the powers of i from 0 to 3.
var powers = [4]api.Gauss{{Re: 1}, {Im: 1}, {Re: -1}, {Im: -1}}

// Exponents of i: with minusI the sums are a transform, with plusI they lead back.
const (
	plusI  = 1
	minusI = 3
)

// turned returns at each k the sum over n of the number n times the base to the power of k n; the base is given as its exponent of i.
func turned(l [4]api.Gauss, base int) [4]api.Gauss {
	var out [4]api.Gauss
	for k := range out {
		for n, x := range l {
			p := powers[base*k*n%4]
			out[k].Re += x.Re*p.Re - x.Im*p.Im
			out[k].Im += x.Re*p.Im + x.Im*p.Re
		}
	}
	return out
}

// Transform returns the transform of four samples.
func Transform(l [4]float32) ([4]complex64, api.Errno) {
	if e := common.FirstOf(l[:], CheckSample); e != api.OK {
		return [4]complex64{}, e
	}
	var numbers [4]api.Gauss
	for n, x := range l {
		numbers[n].Re = common.Integer(x)
	}
	var p [4]complex64
	for k, x := range turned(numbers, minusI) {
		p[k] = complex(common.Sample(x.Re), common.Sample(x.Im))
	}
	return p, api.OK
}

// checkElement returns the error of an element of a panel, or OK.
func checkElement(x complex64) api.Errno {
	if !isFinite(real(x)) || !isFinite(imag(x)) {
		return api.ErrForm
	}
	if !isGrained(real(x), maxPanel) || !isGrained(imag(x), maxPanel) {
		return api.ErrRange
	}
	return api.OK
}

// Back returns the samples of a transform.
func Back(p [4]complex64) ([4]float32, api.Errno) {
	if e := common.FirstOf(p[:], checkElement); e != api.OK {
		return [4]float32{}, e
	}
	var numbers [4]api.Gauss
	for k, x := range p {
		numbers[k] = api.Gauss{Re: common.Integer(real(x)), Im: common.Integer(imag(x))}
	}
	var l [4]float32
	for n, x := range turned(numbers, plusI) {
		// The sums are four times the samples, if there are such.
		if x.Im != 0 || x.Re%4 != 0 || max(x.Re, -x.Re) > maxPanel {
			return [4]float32{}, api.ErrForm
		}
		l[n] = common.Sample(x.Re / 4)
	}
	return l, api.OK
}
