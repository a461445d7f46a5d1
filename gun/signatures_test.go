package gun_test

import (
	"math"
	"slices"
	"testing"

	"moveout/api"
	"moveout/gun"
)

// P3.2: Signature.
func TestSignature(t *testing.T) {
	for _, x := range []struct {
		shifts    []int
		direction string
		width     int
		want      []float32
	}{
		{[]int{0, 0}, "down", 8, samples(64, 32, 0, -48, 0, 0, 48, 0)},
		{[]int{1, 0}, "down", 8, samples(64, 32, 0, -48, 0, 0, 16, 32)},
		{[]int{0, 0}, "fore", 8, samples(64, 0, 0, 0, 0, -16, 32, 0)},
		{[]int{0, 0}, "aft", 8, samples(0, 32, 64, -16, 0, -32, 16, 0)},
		{[]int{1, 0}, "port", 15, samples(64, 32, 0, -48, 0, 0, 16, 32, 0, 0, 0, 8, 0, 0, 16)},
		{[]int{1, 0}, "starboard", 1, samples(64)},
		{[]int{1, 0}, "aft", 1, samples(0)},
	} {
		l, e := gun.Signature(pair(), x.shifts, x.direction, x.width)
		ok(t, "Signature", e)
		same(t, "Signature", l, x.want)
	}
	most := ofVolumes(64, 64, 64, 64, 64, 64, 64, 64)
	l, e := gun.Signature(most, make([]int, 8), "down", 2)
	ok(t, "Signature", e)
	same(t, "the greatest signature", l, []float32{128, 0})
	late := gun.String{Guns: []gun.Gun{{Name: "a", Volume: 1, At: at(0, 1000), Fires: 16}, {Name: "b", Volume: 64, At: at(0, -1000)}}}
	l, e = gun.Signature(late, []int{0, 0}, "port", 64)
	ok(t, "Signature", e)
	same(t, "a bubble that begins behind the width", integers(l), slices.Concat(make([]int, 16), []int{4, 0, -2, 0, 2, 0, 0, 0, 1}, make([]int, 39)))
}

// P3.2: Signature and Enclose, by the definitions.
func TestSignaturesSmall(t *testing.T) {
	r := random(2)
	for range 150 {
		s := r.string(4, 3, 60)
		for _, d := range headings {
			width := 1 + r.below(30)
			low, high := slices.Repeat([]int{math.MaxInt}, width), slices.Repeat([]int{math.MinInt}, width)
			for _, shifts := range shiftsOf(s) {
				want := signatureOf(s, all, shifts, d, width)
				l, e := gun.Signature(s, shifts, d, width)
				ok(t, "Signature", e)
				same(t, "Signature", []any{s, shifts, d, integers(l)}, []any{s, shifts, d, want})
				for i, n := range want {
					low[i], high[i] = min(low[i], n), max(high[i], n)
				}
			}
			var want []api.Interval
			for i := range width {
				want = append(want, span(low[i], high[i]))
			}
			x, e := gun.Enclose(s, d, width)
			ok(t, "Enclose", e)
			same(t, "Enclose", x, want)
		}
	}
}

// P3.2: the errors of Signature, in their order.
func TestSignatureErrors(t *testing.T) {
	for _, x := range badStrings() {
		l, e := gun.Signature(x.s, nil, "up", 0)
		fails(t, "Signature of "+x.what, l, e, x.e)
	}
	for _, shifts := range [][]int{nil, {}, {0}, {0, 0, 0}, {5}, {-1, -1, -1}, make([]int, 1000)} {
		l, e := gun.Signature(pair(), shifts, "up", 0)
		fails(t, "Signature with too few or too many shifts", l, e, api.ErrShape)
	}
	for _, shifts := range [][]int{{2, 0}, {-1, 0}, {0, 1}, {0, -1}, {math.MinInt, 0}, {0, math.MaxInt}} {
		l, e := gun.Signature(pair(), shifts, "up", 0)
		fails(t, "Signature with shifts that are not permitted", l, e, api.ErrRange)
	}
	low := pair()
	low.Guns[1].Shift = span(2, 3)
	for shift, want := range map[int]api.Errno{0: api.ErrRange, 1: api.ErrRange, 2: api.OK, 3: api.OK, 4: api.ErrRange} {
		_, e := gun.Signature(low, []int{0, shift}, "down", 64)
		same(t, "Signature with a shift by an interval", []any{shift, e}, []any{shift, want})
	}
	for _, d := range noHeadings {
		l, e := gun.Signature(pair(), []int{0, 0}, d, 0)
		fails(t, "Signature in no direction", l, e, api.ErrKind)
	}
	for _, width := range badWidths {
		l, e := gun.Signature(pair(), []int{0, 0}, "down", width)
		fails(t, "Signature with a bad width", l, e, api.ErrRange)
	}
}

// P3.2: Enclose.
func TestEnclose(t *testing.T) {
	x, e := gun.Enclose(pair(), "down", 8)
	ok(t, "Enclose", e)
	same(t, "Enclose", x, []api.Interval{span(64, 64), span(32, 32), {}, span(-48, -48), {}, {}, span(16, 48), span(0, 32)})
	two := ofVolumes(8, 1)
	two.Guns[0].Shift, two.Guns[1].Shift = span(3, 4), span(0, 2)
	x, e = gun.Enclose(two, "starboard", 10)
	ok(t, "Enclose", e)
	// the gun a has the pulses 32, -16 at 4, 16 at 8 or 9; b has 4, -2 at 2 or 3, 2 at 4 to 6, 1 at 8 or behind
	same(t, "Enclose", x, []api.Interval{span(36, 36), {}, span(-2, 0), span(-2, 0), span(-16, -14), span(0, 2), span(0, 2), {}, span(0, 17), span(0, 16)})
	for _, x := range badStrings() {
		l, e := gun.Enclose(x.s, "up", 0)
		fails(t, "Enclose of "+x.what, l, e, x.e)
	}
	for _, d := range noHeadings {
		l, e := gun.Enclose(pair(), d, 0)
		fails(t, "Enclose in no direction", l, e, api.ErrKind)
	}
	for _, width := range badWidths {
		l, e := gun.Enclose(pair(), "down", width)
		fails(t, "Enclose with a bad width", l, e, api.ErrRange)
	}
}

// P3.2: Outside.
func TestOutside(t *testing.T) {
	for _, x := range []struct {
		direction string
		l         []float32
		at        int
		is        bool
	}{
		{"down", samples(64, 32, 0, -48, 0, 0, 48, 0), 0, false},
		{"down", samples(64, 32, 0, -48, 0, 0, 16, 0), 0, false},
		{"down", samples(64, 32, 0, -48, 0, 0, 17, 31), 0, false},
		{"down", samples(64, 32, 0, -48, 0, 0, 48, 32), 0, false},
		{"down", samples(64, 32, 0, -48, 0, 0, 49, 32), 6, true},
		{"down", samples(64, 32, 0, -48, 0, 0, 15, 33), 6, true},
		{"down", samples(64, 32, 0, -48, 0, 0, 16, 33), 7, true},
		{"down", samples(64, 32, 0, -48, 0, 0, 16, -1), 7, true},
		{"down", samples(64, 32, 1), 2, true},
		{"down", samples(63), 0, true},
		{"down", samples(64), 0, false},
		{"down", []float32{-1024}, 0, true},
		{"fore", samples(64, 32), 1, true},
		{"fore", []float32{4, minus0, 0}, 0, false},
		{"down", make([]float32, 64), 0, true},
	} {
		i, is, e := gun.Outside(pair(), x.direction, x.l)
		ok(t, "Outside", e)
		same(t, "Outside", []any{x.l, i, is}, []any{x.l, x.at, x.is})
	}
	for _, x := range badStrings() {
		i, is, e := gun.Outside(x.s, "up", nil)
		fails(t, "Outside of "+x.what, i, e, x.e)
		same(t, "whether", is, false)
	}
	for _, d := range noHeadings {
		i, is, e := gun.Outside(pair(), d, nil)
		fails(t, "Outside in no direction", i, e, api.ErrKind)
		same(t, "whether", is, false)
	}
	for _, x := range badLists() {
		i, is, e := gun.Outside(pair(), "down", x.l)
		fails(t, "Outside of a bad list", i, e, x.e)
		same(t, "whether", is, false)
	}
}

// P3.2: Explain.
func TestExplain(t *testing.T) {
	for _, x := range []struct {
		l    []float32
		want []int
	}{
		{samples(64, 32, 0, -48, 0, 0, 48, 0), []int{0, 0}},
		{samples(64, 32, 0, -48, 0, 0, 16, 32), []int{1, 0}},
		{samples(64, 32, 0, -48), []int{0, 0}},
		{[]float32{4, 2, minus0}, []int{0, 0}},
	} {
		l, e := gun.Explain(pair(), "down", x.l)
		ok(t, "Explain", e)
		same(t, "Explain", l, x.want)
	}
	for _, l := range [][]float32{samples(64, 32, 0, -48, 0, 0, 16, 0), samples(64, 32, 0, -48, 0, 0, 48, 32), samples(64, 32, 0, -48, 0, 0, 32, 16), samples(63), make([]float32, 64)} {
		k, e := gun.Explain(pair(), "down", l)
		fails(t, "Explain of no signature", k, e, api.ErrInfeasible)
	}
	// two guns with the same bubbles: the lesser shift is that of the first one
	twins := ofVolumes(8, 8, 8)
	for i := range twins.Guns {
		twins.Guns[i].Shift = span(1, 3)
	}
	signature, e := gun.Signature(twins, []int{3, 1, 2}, "down", 64)
	ok(t, "Signature", e)
	l, e := gun.Explain(twins, "down", signature)
	ok(t, "Explain", e)
	same(t, "Explain of twins", l, []int{1, 2, 3})
	// what is heard of the second gun alone is what the shifts of the first one leave over
	deaf := ofVolumes(8, 8)
	deaf.Guns[0].Fires, deaf.Guns[0].Shift, deaf.Guns[1].Shift = 16, span(2, 4), span(0, 4)
	signature, e = gun.Signature(deaf, []int{4, 3}, "down", 10)
	ok(t, "Signature", e)
	l, e = gun.Explain(deaf, "down", signature)
	ok(t, "Explain", e)
	same(t, "Explain where a gun is not heard", l, []int{2, 3})
}

// P3.2: Explain, by the definition.
func TestExplainSmall(t *testing.T) {
	r := random(3)
	feasible, infeasible := 0, 0
	for range 300 {
		s := r.string(4, 3, 30)
		d := headings[r.below(5)]
		l := signatureOf(s, all, r.shifts(s), d, 1+r.below(24))
		if r.below(2) == 0 {
			l[r.below(len(l))] += r.integer(2) * s.Guns[0].Volume
		}
		want, is := explanationOf(s, d, l)
		k, e := gun.Explain(s, d, samples(l...))
		if !is {
			infeasible++
			fails(t, "Explain", k, e, api.ErrInfeasible)
			continue
		}
		feasible++
		ok(t, "Explain", e)
		same(t, "Explain", []any{s, d, l, k}, []any{s, d, l, want})
	}
	if feasible < 50 || infeasible < 50 {
		t.Errorf("%d lists were explained, and %d were not", feasible, infeasible)
	}
}

// P3.2: Explain where there are 5 to the power of 8 shifts.
func TestExplainLarge(t *testing.T) {
	s := free()
	r := random(4)
	for _, d := range headings {
		for _, width := range []int{1, 5, 12, 64} {
			signature, e := gun.Signature(s, r.shifts(s), d, width)
			ok(t, "Signature", e)
			l, e := gun.Explain(s, d, signature)
			ok(t, "Explain", e)
			again, e := gun.Signature(s, l, d, width)
			ok(t, "Signature", e)
			same(t, "Signature with what explains it", again, signature)
			for i := range signature {
				odd := slices.Clone(signature)
				odd[i] += 0.0625
				l, e = gun.Explain(s, d, odd)
				fails(t, "Explain of an odd integer", l, e, api.ErrInfeasible)
			}
		}
	}
}

// P3.2: the errors of Explain, in their order.
func TestExplainErrors(t *testing.T) {
	for _, x := range badStrings() {
		l, e := gun.Explain(x.s, "up", nil)
		fails(t, "Explain of "+x.what, l, e, x.e)
	}
	for _, d := range noHeadings {
		l, e := gun.Explain(pair(), d, nil)
		fails(t, "Explain in no direction", l, e, api.ErrKind)
	}
	for _, x := range badLists() {
		l, e := gun.Explain(pair(), "down", x.l)
		fails(t, "Explain of a bad list", l, e, x.e)
	}
}

// P3.2: Bands.
func TestBands(t *testing.T) {
	for _, x := range []struct {
		l    []float32
		want [3]int
	}{
		{nil, [3]int{}},
		{samples(1, 2, 3), [3]int{}},
		{samples(64, 32, 0, -48, 0, 0, 48, 0), [3]int{4608, 12800, 8704}},
		{samples(64, 32, 0, -48, 0, 0, 48, 0, 9), [3]int{4608, 12800, 8704}},
		{samples(64, 0, 0, -32, 0, 0, 32, 0), [3]int{2048, 6144, 10240}},
		{samples(1, 2, 3, 5), [3]int{121, 13, 9}},
		{samples(1, 2, 3, 5, 7, 7, 7), [3]int{121, 13, 9}},
		{samples(1, 0, 0, 0), [3]int{1, 1, 1}},
		{samples(0, 1, 0, 0), [3]int{1, 1, 1}},
		{samples(1, 1, 1, 1), [3]int{16, 0, 0}},
		{samples(1, 0, -1, 0), [3]int{0, 4, 0}},
		{samples(0, 1, 0, -1), [3]int{0, 4, 0}},
		{samples(1, -1, 1, -1), [3]int{0, 0, 16}},
		{[]float32{minus0, 0, minus0, 1}, [3]int{256, 256, 256}},
		{slices.Repeat([]float32{1024}, 1024), [3]int{256 * 65536 * 65536, 0, 0}},
		{slices.Repeat([]float32{1024, -1024}, 512), [3]int{0, 0, 256 * 65536 * 65536}},
		{slices.Repeat([]float32{1024, 1024, -1024, -1024}, 256), [3]int{0, 256 * 2 * 32768 * 32768, 0}},
	} {
		b, e := gun.Bands(x.l)
		ok(t, "Bands", e)
		same(t, "Bands", b, x.want)
	}
	r := random(5)
	for range 300 {
		var l []int
		for range r.below(40) {
			l = append(l, r.integer(16384))
		}
		b, e := gun.Bands(samples(l...))
		ok(t, "Bands", e)
		same(t, "Bands", []any{l, b}, []any{l, bandsOf(l)})
	}
}

// P3.2: the errors of Bands, in their order.
func TestBandsErrors(t *testing.T) {
	for _, x := range badLists() {
		b, e := gun.Bands(x.l)
		switch {
		case len(x.l) == 0 || len(x.l) == 65 && x.l[0] == 0:
			// the limits of Bands are others
			same(t, "Bands", e, api.OK)
		case len(x.l) == 65:
			fails(t, "Bands of NaN", b, e, api.ErrForm)
		default:
			fails(t, "Bands of a bad list", b, e, x.e)
		}
	}
	b, e := gun.Bands(make([]float32, 1025))
	fails(t, "Bands of 1025 samples", b, e, api.ErrMany)
	b, e = gun.Bands(slices.Repeat([]float32{nan}, 1025))
	fails(t, "Bands of 1025 samples before the first one", b, e, api.ErrMany)
	b, e = gun.Bands([]float32{0, 0, 0, 0, nan})
	fails(t, "Bands of a bad sample behind all blocks", b, e, api.ErrForm)
}
