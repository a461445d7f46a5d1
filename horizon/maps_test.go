package horizon_test

import (
	"math"
	"slices"
	"testing"

	"moveout/api"
	"moveout/horizon"
)

// spiral returns a map of 5 columns and rows with a low way that turns around a low cell in the middle, 12.
func spiral() horizon.Map {
	return exact(5, 5,
		9, 9, 9, 9, 9,
		9, 3, 4, 5, 9,
		9, 8, 8, 6, 9,
		9, 2, 8, 7, 9,
		9, 9, 9, 1, 9)
}

// level returns a map of one depth.
func level(columns, rows, depth int) horizon.Map {
	return exact(columns, rows, slices.Repeat(ints(depth), columns*rows)...)
}

// all returns the indices below a number.
func all(n int) []int {
	var l []int
	for i := range n {
		l = append(l, i)
	}
	return l
}

// P8.4: maps without an error, and the errors of CheckMap.
func TestCheckMap(t *testing.T) {
	for _, m := range []horizon.Map{basin(), spiral(), exact(1, 1, 0), exact(1, 1, 100000000), mapOf(1, 1, 0, 100000000), level(16, 16, 7), level(16, 1, 7), level(1, 16, 7), mapOf(2, 1, 3, 3, 2, 9)} {
		same(t, "CheckMap", horizon.CheckMap(m), api.OK)
	}
	for _, x := range badMaps() {
		fails(t, "CheckMap of "+x.what, horizon.CheckMap(x.m), x.e)
	}
}

// P8.4: Spill.
func TestSpills(t *testing.T) {
	deep := basin()
	deep.Depths[5] = span(3, 8)
	for _, x := range []struct {
		m    horizon.Map
		cell int
		want api.Interval
	}{
		{basin(), 4, span(8, 8)}, {basin(), 0, span(9, 9)}, {basin(), 5, span(8, 8)}, {deep, 4, span(5, 8)},
		// the way to the border is as deep as its deepest cell, also if this is the first or the last one, and leads over neighbours alone
		{spiral(), 6, span(7, 7)}, {spiral(), 7, span(7, 7)}, {spiral(), 18, span(7, 7)}, {spiral(), 23, span(1, 1)}, {spiral(), 12, span(8, 8)}, {spiral(), 16, span(8, 8)}, {spiral(), 4, span(9, 9)},
		{exact(3, 3, 1, 9, 1, 9, 2, 9, 1, 9, 1), 4, span(9, 9)}, {exact(3, 3, 9, 9, 9, 9, 2, 9, 9, 4, 9), 4, span(4, 4)}, {exact(3, 3, 1, 1, 1, 1, 7, 1, 1, 1, 1), 4, span(7, 7)},
		{exact(3, 3, 0, 0, 0, 0, 0, 0, 0, 0, 0), 4, span(0, 0)}, {exact(1, 1, 5), 0, span(5, 5)}, {mapOf(1, 1, 0, 100000000), 0, span(0, 100000000)}, {exact(2, 2, 5, 6, 7, 8), 3, span(8, 8)}, {exact(1, 5, 4, 1, 2, 3, 5), 2, span(2, 2)}, {exact(5, 1, 4, 1, 2, 3, 5), 2, span(2, 2)}, {level(16, 16, 7), 119, span(7, 7)},
		// by the Lows one way is best, by the Highs another one
		{mapOf(3, 3, 9, 9, 2, 8, 9, 9, 9, 9, 1, 1, 3, 5, 9, 9, 9, 9, 9, 9), 4, span(2, 5)},
	} {
		got, e := horizon.Spill(x.m, x.cell)
		ok(t, "Spill", e)
		same(t, "Spill", got, x.want)
	}
}

// P8.4: Region and Volume.
func TestRegions(t *testing.T) {
	for _, x := range []struct {
		m              horizon.Map
		cell, contact  int
		sure, possible []int
		volume         api.Interval
	}{
		{basin(), 4, 8, ints(4), ints(4), span(2, 3)}, {basin(), 4, 9, ints(4, 5), ints(4, 5), span(4, 5)}, {basin(), 4, 6, nil, ints(4), span(0, 1)}, {basin(), 4, 7, ints(4), ints(4), span(1, 2)}, {basin(), 4, 5, nil, nil, span(0, 0)}, {basin(), 4, 0, nil, nil, span(0, 0)}, {basin(), 5, 8, nil, nil, span(0, 0)}, {basin(), 5, 9, ints(4, 5), ints(4, 5), span(4, 5)}, {basin(), 0, 9, nil, nil, span(0, 0)}, {basin(), 0, 10, all(9), all(9), span(13, 14)},
		// not over corners
		{exact(3, 3, 1, 9, 1, 9, 2, 9, 1, 9, 1), 4, 9, ints(4), ints(4), span(7, 7)}, {exact(3, 3, 1, 9, 1, 9, 2, 9, 1, 9, 1), 0, 9, ints(0), ints(0), span(8, 8)}, {exact(3, 2, 1, 1, 9, 9, 9, 1), 5, 9, ints(5), ints(5), span(8, 8)},
		// not around the end of a row
		{exact(3, 2, 9, 9, 1, 1, 9, 9), 2, 5, ints(2), ints(2), span(4, 4)}, {exact(2, 3, 9, 1, 1, 9, 9, 9), 2, 5, ints(2), ints(2), span(4, 4)},
		// all ways of a spiral
		{spiral(), 6, 4, ints(6), ints(6), span(1, 1)}, {spiral(), 6, 6, ints(6, 7, 8), ints(6, 7, 8), span(6, 6)}, {spiral(), 23, 8, ints(6, 7, 8, 13, 18, 23), ints(6, 7, 8, 13, 18, 23), span(22, 22)}, {spiral(), 16, 8, ints(16), ints(16), span(6, 6)}, {spiral(), 16, 9, ints(6, 7, 8, 11, 12, 13, 16, 17, 18, 23), ints(6, 7, 8, 11, 12, 13, 16, 17, 18, 23), span(38, 38)},
		// the sure region is that of the Highs, the possible one that of the Lows
		{mapOf(3, 1, 1, 6, 2, 4, 3, 9), 1, 5, ints(1), ints(0, 1, 2), span(1, 9)}, {mapOf(3, 1, 1, 6, 2, 4, 3, 9), 0, 5, nil, ints(0, 1, 2), span(0, 9)}, {mapOf(3, 1, 1, 2, 3, 9, 1, 2), 0, 5, ints(0), ints(0, 1, 2), span(3, 10)},
		// the greatest numbers
		{exact(1, 1, 0), 0, 100000000, ints(0), ints(0), span(100000000, 100000000)}, {exact(1, 1, 100000000), 0, 100000000, nil, nil, span(0, 0)}, {level(16, 16, 0), 255, 100000000, all(256), all(256), span(25600000000, 25600000000)},
	} {
		sure, possible, e := horizon.Region(x.m, x.cell, x.contact)
		ok(t, "Region", e)
		same(t, "Region", []any{sure, possible}, []any{x.sure, x.possible})
		volume, e := horizon.Volume(x.m, x.cell, x.contact)
		ok(t, "Volume", e)
		same(t, "Volume", volume, x.volume)
	}
}

// P8.4: spills, regions and volumes are those of the definitions.
func TestMapsByDefinition(t *testing.T) {
	r := random(8)
	for range 1000 {
		m := r.area(6, 9)
		lows, highs, cell, contact := lowsOf(m), highsOf(m), r.below(len(m.Depths)), r.below(12)
		spill, e := horizon.Spill(m, cell)
		ok(t, "Spill", e)
		same(t, "Spill", spill, span(spillOf(m, lows, cell), spillOf(m, highs, cell)))
		sure, possible, e := horizon.Region(m, cell, contact)
		ok(t, "Region", e)
		same(t, "Region", []any{sure, possible}, []any{regionOf(m, highs, cell, contact), regionOf(m, lows, cell, contact)})
		volume, e := horizon.Volume(m, cell, contact)
		ok(t, "Volume", e)
		same(t, "Volume", volume, span(volumeOf(m, highs, cell, contact), volumeOf(m, lows, cell, contact)))
	}
}

// P8.4: the errors of Spill, Region and Volume.
func TestMapsErrors(t *testing.T) {
	check := func(what string, m horizon.Map, cell, contact int, want api.Errno) {
		t.Helper()
		sure, possible, e := horizon.Region(m, cell, contact)
		fails(t, "Region of "+what, e, want, sure, possible)
		volume, e := horizon.Volume(m, cell, contact)
		fails(t, "Volume of "+what, e, want, volume)
	}
	for _, x := range badMaps() {
		for _, cell := range ints(0, -1) {
			spill, e := horizon.Spill(x.m, cell)
			fails(t, "Spill of "+x.what, e, x.e, spill)
			check(x.what, x.m, cell, -1, x.e)
		}
	}
	for _, cell := range ints(-1, 9, 256, math.MinInt, math.MaxInt) {
		spill, e := horizon.Spill(basin(), cell)
		fails(t, "Spill of a cell that is none", e, api.ErrUnknown, spill)
		check("a cell that is none", basin(), cell, 8, api.ErrUnknown)
		check("a cell that is none, and a bad contact", basin(), cell, -1, api.ErrUnknown)
	}
	for _, contact := range badDepths {
		check("a bad contact", basin(), 4, contact, api.ErrRange)
	}
}
