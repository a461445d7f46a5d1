package filter_test

import (
	"testing"

	"moveout/api"
	"moveout/filter"
)

// P5.2: Multiple.
func TestMultiple(t *testing.T) {
	for _, x := range []struct {
		l      []int
		bottom int
		want   []int
	}{
		{[]int{64, 0, 128, 0}, 1, []int{0, -4, 0, -16}}, {[]int{64, 0, 128, 0}, 3, []int{0, 0, 0, -4}}, {[]int{64, 0, 128, 0}, 4, []int{0, 0, 0, 0}}, {[]int{64, 0, 128, 0}, 64, []int{0, 0, 0, 0}}, {nil, 1, nil}, {[]int{16384}, 1, []int{0}},
		// 256, 512 and 768 by 1024, and 1536, are rounded to 0, 1, 1 and 2 before they are made opposite; -512 and -1536 to 0 and -1.
		{[]int{16, 0}, 1, []int{0, 0}}, {[]int{0, 0}, 1, []int{0, 0}}, {[]int{16, 16, 0}, 1, []int{0, 0, -1}}, {[]int{255, 1, 1, 0}, 1, []int{0, -64, 0, 0}}, {[]int{16, 24, 0}, 1, []int{0, 0, -1}}, {[]int{16, 48, 0}, 1, []int{0, 0, -2}}, {[]int{16, -16, 0}, 1, []int{0, 0, 0}}, {[]int{16, -48, 0}, 1, []int{0, 0, 1}}, {[]int{16, -17, 0}, 1, []int{0, 0, 1}},
		// 4096 times itself by 1024 is the greatest integer; 510 more by 1024 do not change it, and a half below the least one is rounded up.
		{[]int{4096, 0}, 1, []int{0, -16384}}, {[]int{255, 4096, 1, 0}, 1, []int{0, -64, -2040, -16384}}, {[]int{768, -10923, 0}, 1, []int{0, -576, 16384}},
	} {
		l, e := filter.Multiple(samples(x.l...), x.bottom)
		ok(t, "Multiple", e)
		same(t, "Multiple", integers(l), x.want)
	}
	for _, l := range [][]int{{4097, 0}, {-4097, 0}, {256, 4096, 1, 0}, {768, -10924, 0}, integers(full(1024, 16384)), {16384, 0, 0, 0}} {
		got, e := filter.Multiple(samples(l...), 1)
		fails(t, "Multiple of large numbers", got, e, api.ErrLarge)
	}
	r := random(4)
	for range 300 {
		l, bottom := r.numbers(r.below(12), 2000), 1+r.below(6)
		got, e := filter.Multiple(samples(l...), bottom)
		want := multipleOf(l, bottom)
		if !fits(want) {
			fails(t, "Multiple", got, e, api.ErrLarge)
			continue
		}
		ok(t, "Multiple", e)
		same(t, "Multiple", integers(got), want)
	}
}

// P5.2: Subtract.
func TestSubtract(t *testing.T) {
	for _, x := range []struct {
		l, m, want []int
		factor     api.Ratio
	}{
		{[]int{0, 48, 0, 192}, []int{0, -4, 0, -16}, []int{0, 0, 0, 0}, api.Ratio{Num: -12, Den: 1}},
		{[]int{32, 0}, []int{16, 16}, []int{16, -16}, api.Ratio{Num: 1, Den: 1}},
		{[]int{1, 0}, []int{1, 1}, []int{1, 0}, api.Ratio{Num: 1, Den: 2}},
		{[]int{0, 0}, []int{5, 1}, []int{0, 0}, api.Ratio{Num: 0, Den: 1}},
		{[]int{7, 0}, []int{0, 3}, []int{7, 0}, api.Ratio{Num: 0, Den: 1}},
		{[]int{5}, []int{-3}, []int{0}, api.Ratio{Num: -5, Den: 3}},
		{[]int{16384, 16383}, []int{0, 16384}, []int{16384, 0}, api.Ratio{Num: 16383, Den: 16384}},
		// A difference is rounded once: 1 less 2/3 is 1/3, and 0 less 2/3, and again, are -2/3.
		{[]int{1, 1, 0}, []int{1, 1, 1}, []int{0, 0, -1}, api.Ratio{Num: 2, Den: 3}},
	} {
		l, f, e := filter.Subtract(samples(x.l...), samples(x.m...))
		ok(t, "Subtract", e)
		same(t, "Subtract", integers(l), x.want)
		same(t, "its factor", f, x.factor)
	}
	// the numbers of a factor may be large
	list, m := full(1024, 16384), full(1024, -16383)
	list[0], m[0] = 0, 1024
	l, f, e := filter.Subtract(list, m)
	ok(t, "Subtract of full lists", e)
	same(t, "its factor", f, api.Ratio{Num: -1023 * 16384 * 16383, Den: 1023*16383*16383 + 16384*16384})
	same(t, "Subtract of full lists", integers(l)[:2], []int{16369, 16})
}

// P5.2: Subtract follows its definition.
func TestSubtractByDefinition(t *testing.T) {
	r := random(5)
	for range 500 {
		length, most := 1+r.below(12), 1<<(1+r.below(14))
		l, m := r.numbers(length, most), r.numbers(length, most)
		m[r.below(length)] = 1
		factor := ratio(innerOf(l, m), innerOf(m, m))
		var want []int
		for _, x := range less(l, m, factor) {
			want = append(want, roundedOf(x))
		}
		got, f, e := filter.Subtract(samples(l...), samples(m...))
		if !fits(want) {
			fails(t, "Subtract", got, e, api.ErrLarge)
			continue
		}
		ok(t, "Subtract", e)
		same(t, "Subtract", integers(got), want)
		same(t, "its factor", f, api.Ratio{Num: int(factor.Num().Int64()), Den: int(factor.Denom().Int64())})
	}
}

// P5.2: the errors of Subtract.
func TestSubtractErrors(t *testing.T) {
	for _, x := range []struct {
		what string
		l, m []float32
		e    api.Errno
	}{
		{"another length", []float32{1}, []float32{1, 2}, api.ErrShape}, {"another length of nothing", []float32{1}, nil, api.ErrShape}, {"another length of zeros", []float32{1}, []float32{0, 0}, api.ErrShape},
		{"zeros", []float32{2, 0}, []float32{0, minus0}, api.ErrSingular}, {"nothing", nil, nil, api.ErrSingular}, {"zeros from the greatest ones", full(9, 16384), full(9, 0), api.ErrSingular},
		// What is left is a part of the list in another direction, which may be longer at one index.
		{"a large result", samples(16384, -16384), samples(5, 12), api.ErrLarge}, {"a large negative result", samples(-16384, 16384), samples(5, 12), api.ErrLarge},
	} {
		l, f, e := filter.Subtract(x.l, x.m)
		fails(t, "Subtract "+x.what, l, e, x.e)
		fails(t, "Subtract "+x.what, f, e, x.e)
	}
	checkPairErrors(t, "Subtract", func(a, b []float32) (any, api.Errno) {
		l, f, e := filter.Subtract(a, b)
		fails(t, "the factor of Subtract", f, e, e)
		return l, e
	})
}

// P5.2: Removed.
func TestRemoved(t *testing.T) {
	for _, x := range []struct {
		l, left []int
		want    api.Ratio
	}{
		{[]int{32, 0}, []int{16, -16}, api.Ratio{Num: 1, Den: 2}}, {[]int{1, 2}, []int{1, 2}, api.Ratio{Num: 0, Den: 1}}, {[]int{1, 2}, []int{0, 0}, api.Ratio{Num: 1, Den: 1}}, {[]int{1, 0}, []int{-2, 0}, api.Ratio{Num: 9, Den: 1}}, {[]int{3, 4}, []int{3, 5}, api.Ratio{Num: 1, Den: 25}},
		{append([]int{1}, make([]int, 1023)...), append([]int{1}, integers(full(1023, -16384))...), api.Ratio{Num: 1023 << 28, Den: 1}},
		{integers(full(1024, 16384)), integers(full(1024, -16384)), api.Ratio{Num: 4, Den: 1}},
		{integers(full(1024, 16384)), append([]int{16383}, integers(full(1023, 16384))...), api.Ratio{Num: 1, Den: 1 << 38}},
	} {
		got, e := filter.Removed(samples(x.l...), samples(x.left...))
		ok(t, "Removed", e)
		same(t, "Removed", got, x.want)
	}
	for _, x := range []struct {
		what    string
		l, left []float32
		e       api.Errno
	}{
		{"another length", []float32{1}, []float32{1, 2}, api.ErrShape}, {"another length of zeros", []float32{0}, nil, api.ErrShape},
		{"nothing", nil, nil, api.ErrZero}, {"zeros", []float32{0, minus0}, []float32{1, 2}, api.ErrZero}, {"zeros of zeros", []float32{0}, []float32{0}, api.ErrZero},
	} {
		got, e := filter.Removed(x.l, x.left)
		fails(t, "Removed of "+x.what, got, e, x.e)
	}
	checkPairErrors(t, "Removed", func(a, b []float32) (any, api.Errno) {
		x, e := filter.Removed(a, b)
		return x, e
	})
}
