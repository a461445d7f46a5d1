package trace_test

import (
	"math"
	"testing"

	"moveout/api"
	"moveout/trace"
)

// badList is a list of samples that is none, with its error.
type badList struct {
	what string
	l    []float32
	e    api.Errno
}

func badLists() []badList {
	return []badList{
		{"1025 samples", make([]float32, 1025), api.ErrMany},
		{"1025 samples, the first one bad", append([]float32{nan}, make([]float32, 1024)...), api.ErrMany},
		{"NaN", []float32{1, nan}, api.ErrForm},
		{"an infinite sample", []float32{-endless}, api.ErrForm},
		{"a sample above", []float32{1, 2, 1024.0625}, api.ErrRange},
		{"a sample between", []float32{0.03125, 1}, api.ErrRange},
		{"the form first", []float32{nan, 2000}, api.ErrForm},
		{"the range first", []float32{2000, nan}, api.ErrRange},
	}
}

// P1.4: Convolve.
func TestConvolve(t *testing.T) {
	for _, x := range []struct {
		l    []float32
		taps []int
		want []float32
	}{
		{[]float32{1, 2, 3}, []int{1, -1}, []float32{1, 1, 1, -3}}, {[]float32{1, 2}, []int{2}, []float32{2, 4}}, {[]float32{1, 2}, []int{0, 0, 1}, []float32{0, 0, 1, 2}}, {[]float32{0.0625}, []int{64, -64, 3}, []float32{4, -4, 0.1875}},
		{[]float32{1, -1}, []int{0}, []float32{0, 0}}, {nil, []int{1, 2}, nil}, {[]float32{}, make([]int, 16), nil}, {[]float32{1024}, []int{1, -1}, []float32{1024, -1024}}, {[]float32{16, 16}, []int{64, -64}, []float32{1024, 0, -1024}},
	} {
		l, e := trace.Convolve(x.l, x.taps)
		ok(t, "Convolve", e)
		same(t, "Convolve", l, x.want)
	}
	r := random(3)
	for range 50 {
		l, taps := r.samples(1+r.below(20), 100), make([]int, 1+r.below(16))
		for j := range taps {
			taps[j] = r.integer(10)
		}
		got, e := trace.Convolve(l, taps)
		ok(t, "Convolve", e)
		same(t, "the number of Convolve", len(got), len(l)+len(taps)-1)
		for k := range got {
			sum := float32(0)
			for j, tap := range taps {
				if k-j >= 0 && k-j < len(l) {
					sum += float32(tap) * l[k-j]
				}
			}
			same(t, "Convolve", got[k], sum)
		}
	}
	l, e := trace.Convolve(make([]float32, 1009), make([]int, 16))
	ok(t, "Convolve to 1024", e)
	same(t, "Convolve to 1024", len(l), 1024)
}

// P1.4: the errors of Convolve.
func TestConvolveErrors(t *testing.T) {
	long := make([]float32, 1010)
	long[0] = 1024
	for _, x := range []struct {
		what string
		l    []float32
		taps []int
		e    api.Errno
	}{
		{"no taps", []float32{1}, nil, api.ErrEmpty}, {"nothing with no taps", nil, nil, api.ErrEmpty}, {"17 taps", []float32{1}, make([]int, 17), api.ErrMany}, {"17 taps, the first one bad", []float32{1}, append([]int{65}, make([]int, 16)...), api.ErrMany},
		{"a tap above", []float32{1}, []int{1, 65}, api.ErrRange}, {"a tap below", nil, []int{-65}, api.ErrRange}, {"a tap far above", []float32{1}, []int{math.MaxInt}, api.ErrRange}, {"a tap far below", []float32{1}, []int{math.MinInt}, api.ErrRange},
		{"1025 results", long, make([]int, 16), api.ErrMany}, {"1025 results, the first one large", long, append([]int{64}, make([]int, 15)...), api.ErrMany}, {"1025 results of 1024", make([]float32, 1024), []int{1, 1}, api.ErrMany},
		{"a large result", []float32{1024}, []int{2}, api.ErrLarge}, {"a large sum", []float32{600, 600}, []int{1, 1}, api.ErrLarge}, {"a large negative sum", []float32{0, -512, -512.0625}, []int{1, 1}, api.ErrLarge}, {"the largest result", []float32{1024, 1024, 1024}, []int{64, 64, 64}, api.ErrLarge},
	} {
		l, e := trace.Convolve(x.l, x.taps)
		same(t, "Convolve of "+x.what, e, x.e)
		same(t, "Convolve of "+x.what, l, []float32{})
	}
	for _, x := range badLists() {
		l, e := trace.Convolve(x.l, nil)
		same(t, "Convolve of "+x.what, e, x.e)
		same(t, "Convolve of "+x.what, l, []float32{})
	}
}

// P1.4: Correlate.
func TestCorrelate(t *testing.T) {
	for _, x := range []struct {
		a, b []float32
		want []int
	}{
		{[]float32{1, 2}, []float32{1, 0, 2}, []int{512, 1024, 256, 512}}, {[]float32{1, 0, 2}, []float32{1, 2}, []int{512, 256, 1024, 512}}, {[]float32{1}, []float32{0.0625}, []int{16}}, {nil, []float32{1}, nil}, {[]float32{1}, nil, nil}, {nil, nil, nil}, {[]float32{-1024}, []float32{1024}, []int{-268435456}},
	} {
		l, e := trace.Correlate(x.a, x.b)
		ok(t, "Correlate", e)
		same(t, "Correlate", l, x.want)
	}
	r := random(4)
	a, b := r.samples(11, 16384), r.samples(6, 16384)
	l, e := trace.Correlate(a, b)
	ok(t, "Correlate", e)
	same(t, "the number of Correlate", len(l), 16)
	for lag := -5; lag <= 10; lag++ {
		sum := 0.0
		for i, y := range b {
			if i+lag >= 0 && i+lag < len(a) {
				sum += 256 * float64(a[i+lag]) * float64(y)
			}
		}
		same(t, "Correlate", l[lag+5], int(sum))
	}
	// the result has no limit of its own
	full := make([]float32, 1024)
	for i := range full {
		full[i] = 1024
	}
	l, e = trace.Correlate(full, full)
	ok(t, "Correlate of full lists", e)
	same(t, "Correlate of full lists", [2]int{len(l), l[1023]}, [2]int{2047, 274877906944})
	for _, x := range badLists() {
		l, e := trace.Correlate(x.l, []float32{1, nan})
		same(t, "Correlate of "+x.what, e, x.e)
		same(t, "Correlate of "+x.what, l, []int{})
		l, e = trace.Correlate(nil, x.l)
		same(t, "Correlate with "+x.what, e, x.e)
		same(t, "Correlate with "+x.what, l, []int{})
	}
}

// P1.4: Energy.
func TestEnergy(t *testing.T) {
	full := make([]float32, 1024)
	for i := range full {
		full[i] = -1024
	}
	for _, x := range []struct {
		l    []float32
		want int
	}{{[]float32{1, 2, 3}, 3584}, {nil, 0}, {[]float32{-0.0625}, 1}, {[]float32{minus0}, 0}, {full, 274877906944}} {
		n, e := trace.Energy(x.l)
		ok(t, "Energy", e)
		same(t, "Energy", n, x.want)
	}
	for _, x := range badLists() {
		n, e := trace.Energy(x.l)
		same(t, "Energy of "+x.what, [2]int{n, int(e)}, [2]int{0, int(x.e)})
	}
}

// P1.4: Peak.
func TestPeak(t *testing.T) {
	for _, x := range []struct {
		l    []float32
		want int
	}{{[]float32{1, -3, 3}, 1}, {[]float32{0}, 0}, {[]float32{0, minus0, 0}, 0}, {[]float32{0, 0, 0.0625}, 2}, {[]float32{5, 1024, -1024}, 1}, {[]float32{5, -1024, 1024}, 1}, {[]float32{1023.9375, 1, -1024}, 2}, {[]float32{1, 3, -3, 2}, 1}} {
		n, e := trace.Peak(x.l)
		ok(t, "Peak", e)
		same(t, "Peak", n, x.want)
	}
	n, e := trace.Peak(nil)
	same(t, "Peak of nothing", [2]int{n, int(e)}, [2]int{0, int(api.ErrEmpty)})
	for _, x := range badLists() {
		n, e := trace.Peak(x.l)
		same(t, "Peak of "+x.what, [2]int{n, int(e)}, [2]int{0, int(x.e)})
	}
	n, e = trace.Peak([]float32{1, 1024, nan})
	same(t, "Peak before NaN", [2]int{n, int(e)}, [2]int{0, int(api.ErrForm)})
}
