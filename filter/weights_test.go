package filter_test

import (
	"math"
	"testing"

	"moveout/api"
	"moveout/filter"
)

// P5.3: Despike.
func TestDespike(t *testing.T) {
	for _, x := range []struct {
		l     []int
		limit int
		want  []int
	}{
		{[]int{16, 144, 32, 48}, 16, []int{16, 48, 32, 48}}, {[]int{16, 144, 32, 48}, 0, []int{16, 32, 48, 48}}, {[]int{16, 144, 32, 48}, 112, []int{16, 144, 32, 48}}, {[]int{16, 144, 32, 48}, 111, []int{16, 143, 32, 48}}, {[]int{16, 144, 32, 48}, 16384, []int{16, 144, 32, 48}},
		{[]int{5, -90, 7}, 3, []int{5, 2, 7}}, {[]int{90, 5, -90}, 0, []int{90, 5, -90}}, {[]int{5, 1}, 0, []int{5, 1}}, {[]int{5}, 0, []int{5}}, {nil, 0, nil}, {[]int{16384, -16384, 16384}, 0, []int{16384, 16384, 16384}}, {[]int{-16384, 16384, -16384}, 16384, []int{-16384, 0, -16384}},
		// the medians are those of the list as it was: both neighbours of a spike see it
		{[]int{0, 9, 1, 9, 2, 0}, 0, []int{0, 1, 9, 2, 2, 0}},
		{[]int{100, 0, 0, 100}, 0, []int{100, 0, 0, 100}},
	} {
		l, e := filter.Despike(samples(x.l...), x.limit)
		ok(t, "Despike", e)
		same(t, "Despike", []any{x.l, x.limit, integers(l)}, []any{x.l, x.limit, x.want})
	}
	r := random(8)
	for range 500 {
		l, limit := r.numbers(r.below(12), 1<<r.below(15)), r.below(1<<r.below(15))
		got, e := filter.Despike(samples(l...), limit)
		ok(t, "Despike", e)
		same(t, "Despike", integers(got), despikedOf(l, limit))
	}
	for _, limit := range []int{-1, 16385, math.MinInt, math.MaxInt} {
		l, e := filter.Despike([]float32{1, 2, 3}, limit)
		fails(t, "Despike by a bad limit", l, e, api.ErrRange)
	}
	for _, x := range badLists() {
		for _, limit := range []int{0, 16384, -1} {
			l, e := filter.Despike(x.l, limit)
			fails(t, "Despike of "+x.what, l, e, x.e)
		}
	}
}

// P5.3: Gain.
func TestGain(t *testing.T) {
	for _, x := range []struct {
		l         []int
		from, den int
		want      []int
	}{
		{[]int{256, 256, 256}, 1, 2, []int{128, 256, 384}}, {[]int{5, 5, 5}, 0, 1, []int{0, 5, 10}}, {[]int{1, 1, 1, 1}, 0, 2, []int{0, 1, 1, 2}}, {[]int{-1, -1, -1, -1}, 0, 2, []int{0, 0, -1, -1}}, {[]int{1, -1}, 1, 3, []int{0, -1}}, {nil, 0, 1, nil}, {[]int{16384, 16384}, 1024, 1024, nil}, {[]int{16384, 16368}, 1024, 1024, []int{16384, 16384}}, {[]int{-16384, -16376}, 1023, 1024, []int{-16368, -16376}}, {[]int{16}, 1024, 1, []int{16384}}, {[]int{17}, 1024, 1, nil}, {[]int{-17}, 1024, 1, nil},
		// 16384 and a half is rounded up, and is too large; less than a half more is not.
		{[]int{32769 / 3}, 3, 2, nil}, {[]int{10922, 8192}, 3, 2, []int{16383, 16384}}, {[]int{-10923}, 3, 2, []int{-16384}}, {[]int{-10924}, 3, 2, nil},
	} {
		l, e := filter.Gain(samples(x.l...), x.from, x.den)
		if x.want == nil && x.l != nil {
			fails(t, "Gain of large numbers", l, e, api.ErrLarge)
			continue
		}
		ok(t, "Gain", e)
		same(t, "Gain", []any{x.l, x.from, x.den, integers(l)}, []any{x.l, x.from, x.den, x.want})
	}
	r := random(9)
	for range 300 {
		l, from, den := r.numbers(r.below(12), 1<<r.below(15)), r.below(1025), 1+r.below(1024)
		var want []int
		for n, x := range l {
			want = append(want, roundedOf(ratio(x*(n+from), den)))
		}
		got, e := filter.Gain(samples(l...), from, den)
		if !fits(want) {
			fails(t, "Gain", got, e, api.ErrLarge)
			continue
		}
		ok(t, "Gain", e)
		same(t, "Gain", integers(got), want)
	}
	l, e := filter.Gain(full(1024, 8), 1024, 1)
	ok(t, "Gain of a full list", e)
	same(t, "Gain of a full list", integers(l)[1023], 8*2047)
}

// P5.3: the errors of Gain.
func TestGainErrors(t *testing.T) {
	for _, n := range []int{-1, 1025, math.MinInt, math.MaxInt} {
		for _, den := range []int{1, 0, 2000} {
			l, e := filter.Gain([]float32{1, 1024}, n, den)
			fails(t, "Gain from a bad number", l, e, api.ErrRange)
		}
	}
	for _, den := range []int{0, -1, 1025, math.MinInt, math.MaxInt} {
		l, e := filter.Gain([]float32{1024, 1024}, 1024, den)
		fails(t, "Gain by a bad denominator", l, e, api.ErrRange)
	}
	for _, x := range badLists() {
		for _, n := range []int{1, 0, -1} {
			l, e := filter.Gain(x.l, n, n)
			fails(t, "Gain of "+x.what, l, e, x.e)
		}
	}
}
