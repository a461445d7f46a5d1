package image_test

import (
	"math"
	"slices"
	"testing"

	"moveout/api"
	"moveout/image"
)

// most is the greatest part of a panel.
const most = 4096

// P7.4: Delay.
func TestDelay(t *testing.T) {
	ones, steps := [4]complex64{1, 1, 1, 1}, [4]complex64{10, -2 + 2i, -2, -2 - 2i}
	for _, x := range []struct {
		p    [4]complex64
		by   int
		want [4]complex64
	}{
		{ones, 0, ones}, {ones, 1, [4]complex64{1, -1i, -1, 1i}}, {ones, 2, [4]complex64{1, -1, 1, -1}}, {ones, 3, [4]complex64{1, 1i, -1, -1i}}, {ones, 4, ones}, {ones, -1, [4]complex64{1, 1i, -1, -1i}}, {ones, -2, [4]complex64{1, -1, 1, -1}}, {ones, -3, [4]complex64{1, -1i, -1, 1i}}, {ones, 100000, ones}, {ones, -100000, ones}, {ones, 99999, [4]complex64{1, 1i, -1, -1i}}, {ones, -99999, [4]complex64{1, -1i, -1, 1i}},
		// 1, 2, 3, 4 is delayed to 4, 1, 2, 3
		{steps, 1, [4]complex64{10, 2 + 2i, 2, 2 - 2i}}, {steps, -1, [4]complex64{10, -2 - 2i, 2, -2 + 2i}},
		{[4]complex64{}, 7, [4]complex64{}}, {[4]complex64{1: 0.0625 - 4096i}, 1, [4]complex64{1: -4096 - 0.0625i}}, {[4]complex64{most + most*1i, -most, most * 1i, -most - most*1i}, 3, [4]complex64{most + most*1i, most * -1i, most * -1i, -most + most*1i}},
		// no panel need be the transform of samples
		{[4]complex64{1i}, 1, [4]complex64{1i}}, {[4]complex64{3: 1}, 1, [4]complex64{3: 1i}},
	} {
		p, e := image.Delay(x.p, x.by)
		ok(t, "Delay", e)
		same(t, "Delay", []any{x.by, p}, []any{x.by, x.want})
	}
	r := random(9)
	for range 300 {
		p, by := r.panel(65536), r.integer(100000)
		got, e := image.Delay(p, by)
		ok(t, "Delay", e)
		same(t, "Delay", got == delayOf(p, by), true)
	}
}

// P7.4: Through.
func TestThrough(t *testing.T) {
	ones := [4]complex64{1, 1, 1, 1}
	two := []image.Layer{{Thick: 2, Slow: 3}, {Thick: 1, Slow: 5}}
	for _, x := range []struct {
		layers []image.Layer
		up     bool
		want   [4]complex64
	}{
		{two, false, [4]complex64{1, 1i, -1, -1i}}, {two, true, [4]complex64{1, -1i, -1, 1i}}, {nil, false, ones}, {nil, true, ones}, {[]image.Layer{{Slow: 1}}, false, ones}, {[]image.Layer{{Thick: 1, Slow: 1}}, false, [4]complex64{1, -1i, -1, 1i}}, {[]image.Layer{{Thick: 1, Slow: 1}, {Thick: 0, Slow: 100}, {Thick: 1, Slow: 1}}, true, [4]complex64{1, -1, 1, -1}},
		// all layers together may delay by more than a delay is
		{slices.Repeat([]image.Layer{{Thick: 1000, Slow: 100}}, 16), false, ones}, {slices.Repeat([]image.Layer{{Thick: 999, Slow: 99}}, 15), false, [4]complex64{1, 1i, -1, -1i}}, {slices.Repeat([]image.Layer{{Thick: 999, Slow: 99}}, 15), true, [4]complex64{1, -1i, -1, 1i}},
	} {
		p, e := image.Through(ones, x.layers, x.up)
		ok(t, "Through", e)
		same(t, "Through", []any{x.layers, x.up, p}, []any{x.layers, x.up, x.want})
	}
	r := random(10)
	for range 300 {
		p, layers := r.panel(65536), r.layers()
		by := 0
		for _, x := range layers {
			by += x.Thick * x.Slow
		}
		for up, by := range map[bool]int{false: by, true: -by} {
			got, e := image.Through(p, layers, up)
			ok(t, "Through", e)
			same(t, "Through", got == delayOf(p, by), true)
		}
	}
}

// P7.4: the errors of Delay and Through.
func TestPanelErrors(t *testing.T) {
	ones := [4]complex64{1, 1, 1, 1}
	for _, x := range badPanels() {
		p, e := image.Delay(x.p, 100001)
		fails(t, "Delay of "+x.what, e, x.e, p)
		p, e = image.Through(x.p, make([]image.Layer, 17), false)
		fails(t, "Through of "+x.what, e, x.e, p)
	}
	for _, by := range []int{100001, -100001, math.MinInt, math.MaxInt} {
		for _, panel := range [][4]complex64{ones, {}} {
			p, e := image.Delay(panel, by)
			fails(t, "Delay by too much", e, api.ErrRange, p)
		}
	}
	for _, x := range badLayersList() {
		for _, up := range []bool{false, true} {
			p, e := image.Through(ones, x.layers, up)
			fails(t, "Through "+x.what, e, x.e, p)
			p, e = image.Through([4]complex64{}, x.layers, up)
			fails(t, "Through of zeros, "+x.what, e, x.e, p)
		}
	}
}
