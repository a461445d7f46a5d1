package filter_test

import (
	"math"
	"testing"

	"moveout/api"
	"moveout/filter"
)

// all returns a square whose elements are all the same.
func all[T any](x T) [4][4]T {
	var out [4][4]T
	for i := range out {
		out[i] = [4]T{x, x, x, x}
	}
	return out
}

// P5.5: Panel.
func TestPanel(t *testing.T) {
	for _, x := range []struct {
		l    [4][4]float32
		want [4][4]complex64
	}{
		{[4][4]float32{{1}, {1}, {1}, {1}}, [4][4]complex64{{4}, {4}, {4}, {4}}},
		{[4][4]float32{{1, 1, 1, 1}}, [4][4]complex64{{4, 4, 4, 4}}},
		{[4][4]float32{{0, 1}}, [4][4]complex64{{1, 1, 1, 1}, {-1i, -1i, -1i, -1i}, {-1, -1, -1, -1}, {1i, 1i, 1i, 1i}}},
		{[4][4]float32{{}, {1}}, [4][4]complex64{{1, -1i, -1, 1i}, {1, -1i, -1, 1i}, {1, -1i, -1, 1i}, {1, -1i, -1, 1i}}},
		{[4][4]float32{{}, {0, 0.0625}}, [4][4]complex64{{0.0625, -0.0625i, -0.0625, 0.0625i}, {-0.0625i, -0.0625, 0.0625i, 0.0625}, {-0.0625, 0.0625i, 0.0625, -0.0625i}, {0.0625i, 0.0625, -0.0625i, -0.0625}}},
		{all[float32](1024), [4][4]complex64{{16384}}}, {all[float32](-1024), [4][4]complex64{{-16384}}}, {all(minus0), [4][4]complex64{}},
	} {
		p, e := filter.Panel(x.l)
		ok(t, "Panel", e)
		same(t, "Panel", p, x.want)
		back, e := filter.Unpanel(x.want)
		ok(t, "Unpanel", e)
		same(t, "Unpanel", back == x.l, true)
	}
	r := random(13)
	for range 200 {
		l := r.square(1 << r.below(15))
		p, e := filter.Panel(l)
		ok(t, "Panel", e)
		same(t, "Panel", p == panelOf(l), true)
	}
}

// P5.5: the errors of Panel.
func TestPanelErrors(t *testing.T) {
	for _, x := range []struct {
		what string
		l    [4][4]float32
		e    api.Errno
	}{
		{"NaN", [4][4]float32{{nan}}, api.ErrForm}, {"an infinite sample", [4][4]float32{3: {3: endless}}, api.ErrForm}, {"a sample above", [4][4]float32{3: {3: 1024.0625}}, api.ErrRange}, {"a sample below", [4][4]float32{{0, -1024.0625}}, api.ErrRange}, {"a sample between", [4][4]float32{2: {1: 0.03125}}, api.ErrRange},
		{"the range first", [4][4]float32{{0, 2000, nan}}, api.ErrRange}, {"the form first", [4][4]float32{{0, nan, 2000}}, api.ErrForm}, {"the range in an earlier trace", [4][4]float32{{0, 0, 0, 2000}, {nan}}, api.ErrRange}, {"the form in an earlier trace", [4][4]float32{{0, 0, 0, nan}, {2000}}, api.ErrForm},
	} {
		p, e := filter.Panel(x.l)
		fails(t, "Panel of "+x.what, p, e, x.e)
	}
}

// badPanel is a panel that is none, with its error.
type badPanel struct {
	what string
	p    [4][4]complex64
	e    api.Errno
}

// badPanels returns panels with each error of a panel, and with two where their order matters.
func badPanels() []badPanel {
	nowhere, odd := complex(nan, 0), complex64(complex(0, 0.03125))
	return []badPanel{
		{"NaN", [4][4]complex64{{nowhere}}, api.ErrForm}, {"a part i that is NaN", [4][4]complex64{3: {3: complex(0, nan)}}, api.ErrForm}, {"an infinite part", [4][4]complex64{1: {2: complex(-endless, 0)}}, api.ErrForm}, {"an infinite part i", [4][4]complex64{1: {2: complex(0, endless)}}, api.ErrForm},
		{"a part above", [4][4]complex64{{16384.0625}}, api.ErrRange}, {"a part below", [4][4]complex64{3: {3: -16385}}, api.ErrRange}, {"a part i above", [4][4]complex64{2: {0: complex(0, 16385)}}, api.ErrRange}, {"a part i below", [4][4]complex64{2: {0: complex(1, -16384.0625)}}, api.ErrRange}, {"a part between", [4][4]complex64{0: {1: 0.03125}}, api.ErrRange}, {"a part i between", [4][4]complex64{0: {1: odd}}, api.ErrRange}, {"a part far above", [4][4]complex64{3: {3: complex(math.MaxFloat32, 0)}}, api.ErrRange},
		{"both in one element", [4][4]complex64{{complex(20000, nan)}}, api.ErrForm}, {"both in one element, the other way round", [4][4]complex64{{complex(nan, 20000)}}, api.ErrForm},
		{"the range first", [4][4]complex64{{0, odd, nowhere}}, api.ErrRange}, {"the form first", [4][4]complex64{{0, nowhere, odd}}, api.ErrForm}, {"the range in an earlier row", [4][4]complex64{{0, 0, 0, odd}, {nowhere}}, api.ErrRange}, {"the form in an earlier row", [4][4]complex64{{0, 0, 0, nowhere}, {odd}}, api.ErrForm}, {"no panel of samples before a range", [4][4]complex64{{1i}, 3: {3: 20000}}, api.ErrRange},
	}
}

// P5.5: the errors of Unpanel.
func TestUnpanelErrors(t *testing.T) {
	for _, x := range badPanels() {
		l, e := filter.Unpanel(x.p)
		fails(t, "Unpanel of "+x.what, l, e, x.e)
	}
	for what, p := range map[string][4][4]complex64{
		"a sixteenth": {{0.0625}}, "eight sixteenths": {{0.5}}, "15 sixteenths": {{0.9375}}, "17 sixteenths": {{1.0625}}, "15 sixteenths below 0": {{-0.9375}}, "a number i": {{1i}}, "16 i": {{16i}}, "a row": {{}, {4}}, "one of two": {{0, 1i}}, "two that are not opposite": {{0, 1i, 0, 1i}}, "opposite numbers": {{0, 1, 0, -1}},
		"a large sample": {{16384, 16}}, "a large negative sample": {{-16384, 0, -16}}, "larger samples": {{16384, 0, 16384}}, "the largest parts": all[complex64](complex(16384, 16384)), "a part i beside": {{16, 0, 16i}}, "the last one": {3: {3: 16}},
		"the sum of samples and imaginary ones": {{16, 16 - 16i, 16, 16 + 16i}, {16i}},
	} {
		l, e := filter.Unpanel(p)
		fails(t, "Unpanel of "+what, l, e, api.ErrForm)
	}
}

// P5.5: Unpanel returns the traces of all panels of four traces, and of no others.
func TestUnpanelByDefinition(t *testing.T) {
	r := random(14)
	others := 0
	for range 500 {
		l := r.square(1 << r.below(15))
		p := panelOf(l)
		got, e := filter.Unpanel(p)
		ok(t, "Unpanel", e)
		same(t, "Unpanel", got, l)
		p[r.below(4)][r.below(4)] += complex(float32(r.integer(1)), float32(r.integer(1)))
		if got, e := filter.Unpanel(p); e == api.OK {
			same(t, "the panel of Unpanel", panelOf(got) == p, true)
		} else {
			others++
		}
	}
	if others < 300 {
		t.Errorf("%d panels were those of no samples", others)
	}
}

// P5.5: Keep.
func TestKeep(t *testing.T) {
	p := [4][4]complex64{{4}, {4}, {4}, {4}}
	for mask, want := range map[uint16][4][4]complex64{0xffff: p, 1<<0 | 1<<4 | 1<<8 | 1<<12: p, 0: {}, 1 << 4: {1: {4}}, 1 << 12: {3: {4}}, 1 << 1: {}, 0xfffe: {{}, {4}, {4}, {4}}} {
		got, e := filter.Keep(p, mask)
		ok(t, "Keep", e)
		same(t, "Keep", []any{mask, got}, []any{mask, want})
	}
	r := random(15)
	for range 200 {
		var p, want [4][4]complex64
		mask := uint16(r.below(1 << 16))
		for k := range 4 {
			for m := range 4 {
				p[k][m] = complex(float32(r.integer(1<<18))/16, float32(r.integer(1<<18))/16)
				if mask&(1<<(4*k+m)) != 0 {
					want[k][m] = p[k][m]
				}
			}
		}
		got, e := filter.Keep(p, mask)
		ok(t, "Keep", e)
		same(t, "Keep", got, want)
	}
	for _, x := range badPanels() {
		for _, mask := range []uint16{0, 1, 0xffff} {
			got, e := filter.Keep(x.p, mask)
			fails(t, "Keep of "+x.what, got, e, x.e)
		}
	}
}
