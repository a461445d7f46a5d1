package common

import "moveout/api"

// powers are the powers of i from 0 to 3.
var powers = [4]api.Gauss{{Re: 1}, {Im: 1}, {Re: -1}, {Im: -1}}

// Exponents of i: with MinusI the sums of Turned are a transform, with PlusI they lead back.
const (
	PlusI  = 1
	MinusI = 3
)

// Turned returns at each k the sum over n of the number n times the base to the power of k n; the base is given as its exponent of i.
func Turned(l [4]api.Gauss, base int) [4]api.Gauss {
	var out [4]api.Gauss
	for k := range out {
		for n, x := range l {
			turned := Rotated(x, base*k*n)
			out[k].Re += turned.Re
			out[k].Im += turned.Im
		}
	}
	return out
}

// Rotated returns a number times the power of i with an exponent, which may be below 0.
func Rotated(x api.Gauss, exponent int) api.Gauss {
	// The powers come again after four: the last two bits of an exponent tell which one it is, also below 0.
	p := powers[exponent&3]
	return api.Gauss{Re: x.Re*p.Re - x.Im*p.Im, Im: x.Re*p.Im + x.Im*p.Re}
}

// CheckElement returns ErrForm if a part of an element of a panel is NaN or infinite, then ErrRange if one is not a whole number of grains from -most to most, or OK.
func CheckElement(x complex64, most int) api.Errno {
	if !isFinite(real(x)) || !isFinite(imag(x)) {
		return api.ErrForm
	}
	return First(CheckGrains(real(x), most), CheckGrains(imag(x), most))
}

// Gauss returns the integers of the parts of an element of a panel.
func Gauss(x complex64) api.Gauss {
	return api.Gauss{Re: Integer(real(x)), Im: Integer(imag(x))}
}

// Element returns the element of a panel whose parts have some integers: 0, never -0.
func Element(x api.Gauss) complex64 {
	return complex(Sample(x.Re), Sample(x.Im))
}
