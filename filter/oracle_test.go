package filter_test

import (
	"math/big"
	"slices"

	"moveout/filter"
)

// The functions of this file follow the definitions of the chapter word by word, for small arguments.

// fits reports whether all integers are those of samples.
func fits(l []int) bool {
	return !slices.ContainsFunc(l, func(n int) bool { return n < -16384 || n > 16384 })
}

// at returns the integer at an index, or 0 if there is none.
func at(l []int, n int) int {
	if n < 0 || n >= len(l) {
		return 0
	}
	return l[n]
}

// appliedOf returns the list to which taps were applied.
func appliedOf(taps, l []int) []int {
	out := make([]int, len(l))
	for n := range out {
		for k, tap := range taps {
			out[n] += tap * at(l, n-k)
		}
	}
	return out
}

// adjointOf returns the list to which the adjoint of taps was applied.
func adjointOf(taps, l []int) []int {
	out := make([]int, len(l))
	for n := range out {
		for k, tap := range taps {
			out[n] += tap * at(l, n+k)
		}
	}
	return out
}

// innerOf returns the inner product of two lists.
func innerOf(a, b []int) int {
	sum := 0
	for n := range a {
		sum += a[n] * b[n]
	}
	return sum
}

// power returns a base to the power of a number from 0 on.
func power(base complex128, n int) complex128 {
	product := complex128(1)
	for range n {
		product *= base
	}
	return product
}

// responseOf returns the responses of taps.
func responseOf(taps []int) [4]complex128 {
	var out [4]complex128
	for k := range out {
		for j, tap := range taps {
			out[k] += complex(float64(tap), 0) * power(-1i, j*k)
		}
	}
	return out
}

// ratio returns a quotient as a rational number.
func ratio(num, den int) *big.Rat {
	return big.NewRat(int64(num), int64(den))
}

// roundedOf returns the greatest integer that is not above a number by a half more.
func roundedOf(x *big.Rat) int {
	y := new(big.Rat).Add(x, ratio(1, 2))
	// The division is Euclid's: with a divisor above 0 the quotient is rounded down.
	return int(new(big.Int).Div(y.Num(), y.Denom()).Int64())
}

// multipleOf returns the predicted multiple of a list.
func multipleOf(l []int, bottom int) []int {
	out := make([]int, len(l))
	for n := range out {
		sum := 0
		for j := 0; j <= n-bottom; j++ {
			sum += l[j] * l[n-bottom-j]
		}
		out[n] = -roundedOf(ratio(sum, 1024))
	}
	return out
}

// less returns the numbers of a list less a factor times those of another one.
func less(l, m []int, factor *big.Rat) []*big.Rat {
	var out []*big.Rat
	for n := range l {
		x := new(big.Rat).Mul(factor, ratio(m[n], 1))
		out = append(out, x.Sub(ratio(l[n], 1), x))
	}
	return out
}

// energyOf returns the sum of the squares of numbers.
func energyOf(l []*big.Rat) *big.Rat {
	sum := new(big.Rat)
	for _, x := range l {
		sum.Add(sum, new(big.Rat).Mul(x, x))
	}
	return sum
}

// errorOf returns the error of a prediction by A and B for a list.
func errorOf(l []int, a, b *big.Rat) *big.Rat {
	var differences []*big.Rat
	for n := 2; n < len(l); n++ {
		x := new(big.Rat).Mul(a, ratio(l[n-1], 1))
		y := new(big.Rat).Mul(b, ratio(l[n-2], 1))
		differences = append(differences, x.Sub(ratio(l[n], 1), x.Add(x, y)))
	}
	return energyOf(differences)
}

// isSingular reports whether all pairs of neighbours that predict an integer are multiples of one pair.
func isSingular(l []int) bool {
	for i := 2; i < len(l); i++ {
		for j := 2; j < i; j++ {
			if l[i-1]*l[j-2] != l[j-1]*l[i-2] {
				return false
			}
		}
	}
	return true
}

// despikedOf returns a despiked list.
func despikedOf(l []int, limit int) []int {
	out := slices.Clone(l)
	for n := 1; n < len(l)-1; n++ {
		three := slices.Clone(l[n-1 : n+2])
		slices.Sort(three)
		switch m := three[1]; {
		case l[n] > m && l[n]-m > limit:
			out[n] = m + limit
		case l[n] < m && m-l[n] > limit:
			out[n] = m - limit
		}
	}
	return out
}

// levelOf returns the level at a tick.
func levelOf(l []filter.Tide, tick int) *big.Rat {
	last := l[len(l)-1]
	if tick >= last.Tick {
		return ratio(last.Height, 1)
	}
	if tick <= l[0].Tick {
		return ratio(l[0].Height, 1)
	}
	i := 0
	for l[i+1].Tick < tick {
		i++
	}
	part := ratio(tick-l[i].Tick, l[i+1].Tick-l[i].Tick)
	part.Mul(part, ratio(l[i+1].Height-l[i].Height, 1))
	return part.Add(part, ratio(l[i].Height, 1))
}

// panelOf returns the panel of four traces.
func panelOf(l [4][4]float32) [4][4]complex64 {
	var p [4][4]complex64
	for k := range 4 {
		for m := range 4 {
			sum := complex128(0)
			for t := range 4 {
				for n := range 4 {
					sum += complex(float64(l[t][n]), 0) * power(-1i, k*n+m*t)
				}
			}
			p[k][m] = complex64(sum)
		}
	}
	return p
}

// energyOfPanel returns the sum of the squares of the integers of all parts.
func energyOfPanel(p [4][4]complex64) int {
	sum := 0
	for _, row := range p {
		for _, x := range row {
			re, im := int(16*real(x)), int(16*imag(x))
			sum += re*re + im*im
		}
	}
	return sum
}
