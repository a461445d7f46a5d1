package trace

import (
	"moveout/api"
	"moveout/common"
)

// maxPanel is the greatest absolute integer of a part of a panel.
const maxPanel = 4 * common.MaxInteger

// Transform returns the transform of four samples.
func Transform(l [4]float32) ([4]complex64, api.Errno) {
	if e := common.FirstOf(l[:], CheckSample); e != api.OK {
		return [4]complex64{}, e
	}
	var numbers [4]api.Gauss
	for n, x := range l {
		numbers[n].Re = common.Integer(x)
	}
	var p [4]complex64
	for k, x := range common.Turned(numbers, common.MinusI) {
		p[k] = common.Element(x)
	}
	return p, api.OK
}

// checkElement returns the error of an element of a panel, or OK.
func checkElement(x complex64) api.Errno {
	return common.CheckElement(x, maxPanel)
}

// Back returns the samples of a transform.
func Back(p [4]complex64) ([4]float32, api.Errno) {
	if e := common.FirstOf(p[:], checkElement); e != api.OK {
		return [4]float32{}, e
	}
	var numbers [4]api.Gauss
	for k, x := range p {
		numbers[k] = common.Gauss(x)
	}
	var l [4]float32
	for n, x := range common.Turned(numbers, common.PlusI) {
		// The sums are four times the samples, if there are such.
		if x.Im != 0 || x.Re%4 != 0 || max(x.Re, -x.Re) > maxPanel {
			return [4]float32{}, api.ErrForm
		}
		l[n] = common.Sample(x.Re / 4)
	}
	return l, api.OK
}
