package velocity_test

import (
	"math"
	"slices"
	"testing"

	"moveout/api"
	"moveout/velocity"
)

// twoPicks returns the picks of the chapter, the first one with an error.
func twoPicks(e int) []velocity.Pick {
	return []velocity.Pick{pick(10, 4, e), pick(20, 6, 0)}
}

// P6.4: Refused and Moments.
func TestRefusedAndMoments(t *testing.T) {
	greatest := []velocity.Pick{pick(1024, 1000000000, 1000000000)}
	for _, x := range []struct {
		l       []velocity.Pick
		b       api.Interval
		pair    [2]int
		refused bool
		m       []int
	}{
		{twoPicks(1), span(2, 8), [2]int{}, false, ints(40, 120)}, {twoPicks(1), span(2, 7), [2]int{}, false, ints(50, 120)}, {twoPicks(0), span(2, 8), [2]int{}, false, ints(40, 120)}, {twoPicks(0), span(2, 7), [2]int{0, 1}, true, nil}, {twoPicks(0), span(5, 9), [2]int{-1, 0}, true, nil}, {twoPicks(0), span(1, 5), [2]int{-1, 1}, true, nil}, {twoPicks(2), span(1, 6), [2]int{}, false, ints(60, 120)}, {twoPicks(9), span(4, 8), [2]int{}, false, ints(40, 120)}, {twoPicks(9), span(1, 1000000000), [2]int{}, false, ints(10, 120)},
		{nil, span(1, 1), [2]int{}, false, nil}, {rising(64), span(7, 7), [2]int{}, false, multiples(64, 7)}, {rising(64), span(8, 9), [2]int{-1, 0}, true, nil}, {rising(64), span(1, 6), [2]int{-1, 0}, true, nil}, {greatest, span(1, 1), [2]int{}, false, ints(1024)}, {greatest, span(1000000000, 1000000000), [2]int{}, false, ints(1024000000000)},
		// a later pick raises all before it, and the start is too far from it
		{[]velocity.Pick{pick(1, 5, 4), pick(2, 5, 4), pick(3, 5, 0)}, span(1, 5), [2]int{}, false, ints(5, 10, 15)}, {[]velocity.Pick{pick(1, 5, 4), pick(2, 5, 4), pick(3, 5, 0)}, span(1, 4), [2]int{-1, 2}, true, nil}, {[]velocity.Pick{pick(1, 5, 1), pick(2, 5, 1), pick(3, 2, 1)}, span(1, 6), [2]int{}, false, ints(4, 8, 9)}, {[]velocity.Pick{pick(1, 5, 0), pick(2, 5, 1), pick(3, 2, 0)}, span(1, 6), [2]int{0, 2}, true, nil}, {[]velocity.Pick{pick(1, 5, 0), pick(2, 5, 0), pick(3, 2, 0)}, span(1, 6), [2]int{0, 2}, true, nil}, {[]velocity.Pick{pick(1, 3, 0), pick(2, 5, 0), pick(3, 3, 0)}, span(1, 6), [2]int{0, 1}, true, nil}, {[]velocity.Pick{pick(1, 3, 0), pick(2, 4, 0), pick(3, 1, 0)}, span(1, 6), [2]int{0, 2}, true, nil}, {[]velocity.Pick{pick(1, 3, 0), pick(2, 4, 0), pick(3, 2, 0)}, span(1, 6), [2]int{1, 2}, true, nil},
	} {
		pair, refused, e := velocity.Refused(x.l, x.b)
		ok(t, "Refused", e)
		same(t, "Refused", []any{x.l, x.b, pair, refused}, []any{x.l, x.b, x.pair, x.refused})
		m, e := velocity.Moments(x.l, x.b)
		if x.refused {
			fails(t, "Moments", e, api.ErrInfeasible, m)
			continue
		}
		ok(t, "Moments", e)
		same(t, "Moments", []any{x.l, x.b, plain(m)}, []any{x.l, x.b, plain(x.m)})
		same(t, "CheckMoments of Moments", velocity.CheckMoments(x.l, x.b, m), api.OK)
	}
}

// multiples returns the first so many multiples of a number, from itself on.
func multiples(many, n int) []int {
	var l []int
	for i := range many {
		l = append(l, n*(i+1))
	}
	return l
}

// P6.4: CheckMoments.
func TestCheckMoments(t *testing.T) {
	for _, x := range []struct {
		b api.Interval
		m []int
		e api.Errno
	}{
		{span(2, 8), ints(40, 120), api.OK}, {span(2, 8), ints(50, 120), api.OK}, {span(2, 7), ints(50, 120), api.OK}, {span(4, 8), ints(45, 120), api.OK},
		{span(2, 8), nil, api.ErrShape}, {span(2, 8), ints(40), api.ErrShape}, {span(2, 8), ints(40, 120, 130), api.ErrShape}, {span(2, 8), ints(0, 0, 0), api.ErrShape},
		{span(2, 8), ints(51, 120), api.ErrConflict}, {span(2, 8), ints(29, 120), api.ErrConflict}, {span(2, 8), ints(40, 121), api.ErrConflict}, {span(2, 8), ints(40, 119), api.ErrConflict}, {span(2, 8), ints(math.MinInt, 120), api.ErrConflict}, {span(2, 8), ints(40, math.MaxInt), api.ErrConflict}, {span(9, 9), ints(51, 120), api.ErrConflict},
		{span(2, 8), ints(39, 120), api.ErrRule}, {span(2, 7), ints(49, 120), api.ErrRule}, {span(8, 8), ints(50, 120), api.ErrRule}, {span(5, 8), ints(49, 121), api.ErrRule}, {span(1, 3), ints(40, 121), api.ErrRule}, {span(5, 6), ints(50, 120), api.ErrRule},
	} {
		same(t, "CheckMoments", []any{x.b, x.m, velocity.CheckMoments(twoPicks(1), x.b, x.m)}, []any{x.b, x.m, x.e})
	}
	same(t, "CheckMoments of no picks", velocity.CheckMoments(nil, span(1, 1), nil), api.OK)
	same(t, "CheckMoments below 0", velocity.CheckMoments([]velocity.Pick{pick(1, 1, 5)}, span(1, 9), ints(-4)), api.ErrRule)
	// the second pick of growth too small, not too great
	steep := []velocity.Pick{pick(1, 5, 4), pick(2, 5, 4)}
	same(t, "CheckMoments of a small growth", velocity.CheckMoments(steep, span(2, 5), ints(4, 5)), api.ErrRule)
	same(t, "CheckMoments of the least growth", velocity.CheckMoments(steep, span(2, 5), ints(4, 6)), api.OK)
	same(t, "CheckMoments of a growth below 0", velocity.CheckMoments(steep, span(2, 5), ints(5, 4)), api.ErrRule)
}

// P6.4: Refused, Moments and CheckMoments follow their definitions; P7: picks are explained by layers, or two of them contradict each other.
func TestMomentsByDefinition(t *testing.T) {
	r := random(6)
	explained := 0
	for range 2000 {
		l, b := r.picks(4), r.bounds()
		all := explanations(l, b)
		pair, refused, e := velocity.Refused(l, b)
		ok(t, "Refused", e)
		wantPair, wantRefused := refusedOf(l, b)
		same(t, "Refused", []any{l, b, pair, refused}, []any{l, b, wantPair, wantRefused})
		same(t, "refused exactly if not explained", refused, len(all) == 0)
		m, e := velocity.Moments(l, b)
		if len(all) == 0 {
			fails(t, "Moments", e, api.ErrInfeasible, m)
			continue
		}
		explained++
		ok(t, "Moments", e)
		least := slices.Clone(all[0])
		for _, other := range all {
			for i := range other {
				least[i] = min(least[i], other[i])
			}
			same(t, "CheckMoments", velocity.CheckMoments(l, b, other), api.OK)
		}
		same(t, "Moments", []any{l, b, plain(m)}, []any{l, b, plain(least)})
		for i := range m {
			other := slices.Clone(m)
			other[i] += r.integer(3)
			same(t, "CheckMoments", velocity.CheckMoments(l, b, other) == api.OK, slices.ContainsFunc(all, func(x []int) bool { return slices.Equal(x, other) }))
		}
	}
	if explained < 400 || explained > 1800 {
		t.Errorf("%d picks of 2000 were explained", explained)
	}
}

// P6.4: Layers.
func TestLayers(t *testing.T) {
	for _, x := range []struct {
		l    []velocity.Pick
		m    []int
		want []api.Ratio
	}{
		{twoPicks(1), ints(40, 120), []api.Ratio{{Num: 4, Den: 1}, {Num: 8, Den: 1}}}, {twoPicks(1), ints(50, 120), []api.Ratio{{Num: 5, Den: 1}, {Num: 7, Den: 1}}}, {twoPicks(1), ints(45, 120), []api.Ratio{{Num: 9, Den: 2}, {Num: 15, Den: 2}}}, {twoPicks(1), ints(0, -5), []api.Ratio{{Num: 0, Den: 1}, {Num: -1, Den: 2}}}, {twoPicks(0), ints(-7, -7), []api.Ratio{{Num: -7, Den: 10}, {Num: 0, Den: 1}}}, {nil, nil, nil},
		{twoPicks(0), ints(1<<40, -1<<40), []api.Ratio{{Num: 1 << 39, Den: 5}, {Num: -1 << 40, Den: 5}}}, {[]velocity.Pick{pick(1024, 1, 0)}, ints(1<<40 - 1), []api.Ratio{{Num: 1<<40 - 1, Den: 1024}}}, {[]velocity.Pick{pick(3, 1, 0), pick(10, 1, 0), pick(12, 1, 0)}, ints(3, 17, 18), []api.Ratio{{Num: 1, Den: 1}, {Num: 2, Den: 1}, {Num: 1, Den: 2}}},
	} {
		got, e := velocity.Layers(x.l, x.m)
		ok(t, "Layers", e)
		same(t, "Layers", got, x.want)
	}
	for _, x := range []struct {
		m []int
		e api.Errno
	}{
		{nil, api.ErrShape}, {ints(1), api.ErrShape}, {ints(1, 2, 3), api.ErrShape}, {ints(1 << 41), api.ErrShape}, {ints(0, 1<<40+1), api.ErrRange}, {ints(-1<<40-1, 0), api.ErrRange}, {ints(math.MinInt, 0), api.ErrRange}, {ints(0, math.MaxInt), api.ErrRange},
	} {
		got, e := velocity.Layers(twoPicks(1), x.m)
		fails(t, "Layers", e, x.e, got)
	}
}

// P6.4: the errors of picks, and of bounds.
func TestLayersErrors(t *testing.T) {
	for _, x := range badPickLists() {
		for _, b := range []api.Interval{span(1, 2), span(2, 1), {}} {
			pair, refused, e := velocity.Refused(x.l, b)
			fails(t, "Refused of "+x.what, e, x.e, pair, refused)
			m, e := velocity.Moments(x.l, b)
			fails(t, "Moments of "+x.what, e, x.e, m)
			same(t, "CheckMoments of "+x.what, velocity.CheckMoments(x.l, b, make([]int, 70)), x.e)
		}
		for _, m := range [][]int{nil, make([]int, len(x.l)), slices.Repeat(ints(math.MaxInt), len(x.l))} {
			got, e := velocity.Layers(x.l, m)
			fails(t, "Layers of "+x.what, e, x.e, got)
		}
	}
	for _, x := range badBoundsList() {
		for _, l := range [][]velocity.Pick{nil, twoPicks(1)} {
			pair, refused, e := velocity.Refused(l, x.b)
			fails(t, "Refused by bad bounds", e, x.e, pair, refused)
			m, e := velocity.Moments(l, x.b)
			fails(t, "Moments by bad bounds", e, x.e, m)
			same(t, "CheckMoments by bad bounds", velocity.CheckMoments(l, x.b, ints(1)), x.e)
		}
	}
}
