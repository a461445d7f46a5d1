package image_test

import (
	"math"
	"slices"
	"testing"

	"moveout/api"
	"moveout/image"
)

// P7.1: Times.
func TestTimes(t *testing.T) {
	for _, x := range []struct {
		g      image.Ground
		source int
		want   []int
	}{
		{groundG(), 0, ints(0, 6, 8, 15)}, {groundG(), 1, ints(6, 0, 14, 12)}, {groundG(), 3, ints(15, 12, 14, 0)}, {ground(1, 1, 100), 0, ints(0)}, {ground(3, 1, 1, 2, 3), 0, ints(0, 6, 16)}, {ground(1, 3, 1, 2, 3), 2, ints(16, 10, 0)},
		// around a slow cell the way is longer, but takes less time
		{ground(3, 3, 1, 100, 1, 1, 100, 1, 1, 1, 1), 0, ints(0, 202, 20, 4, 206, 16, 8, 10, 14)},
	} {
		l, e := image.Times(x.g, x.source)
		ok(t, "Times", e)
		same(t, "Times", l, x.want)
		same(t, "CheckTimes", image.CheckTimes(x.g, x.source, x.want), api.OK)
	}
}

// snake returns a ground whose fast cells are one long way, which slow cells part.
func snake() image.Ground {
	g := even(16, 16, 100)
	for row := range 16 {
		for column := range 16 {
			end := 15 * (1 - row/2%2)
			if row%2 == 0 || column == end {
				g.Slow[16*row+column] = 1
			}
		}
	}
	return g
}

// P7.1: Times and CheckTimes follow their definition; P8: a travel time is that of the best way.
func TestTimesByDefinition(t *testing.T) {
	r := random(2)
	for i := range 150 {
		g := r.ground(6, 1+r.below(100))
		if i == 0 {
			g = snake()
		}
		source := r.cell(g)
		want := timesOf(g, source)
		l, e := image.Times(g, source)
		ok(t, "Times", e)
		same(t, "Times", l, want)
		same(t, "CheckTimes", image.CheckTimes(g, source, want), api.OK)
		for _, by := range []int{-1, 1} {
			other := slices.Clone(want)
			other[r.cell(g)] += by
			same(t, "CheckTimes of another time", image.CheckTimes(g, source, other), api.ErrProof)
		}
	}
}

// P7.1: Path.
func TestPath(t *testing.T) {
	for _, x := range []struct {
		g              image.Ground
		source, target int
		way            []int
		time           int
	}{
		{groundG(), 0, 3, ints(0, 3), 15}, {groundG(), 1, 2, ints(1, 0, 2), 14}, {groundG(), 2, 1, ints(2, 0, 1), 14}, {groundG(), 3, 3, ints(3), 0}, {ground(1, 1, 5), 0, 0, ints(0), 0},
		// with slownesses that are all alike several ways have the time; a diagonal costs as much as one and a half straight steps
		{even(3, 2, 1), 0, 5, ints(0, 1, 5), 10}, {even(3, 2, 1), 5, 0, ints(5, 1, 0), 10}, {even(2, 3, 1), 0, 5, ints(0, 2, 5), 10}, {even(2, 3, 1), 5, 0, ints(5, 2, 0), 10}, {even(4, 4, 1), 3, 8, ints(3, 2, 5, 8), 16}, {even(4, 4, 1), 8, 3, ints(8, 5, 2, 3), 16},
		{ground(3, 3, 1, 100, 1, 1, 100, 1, 1, 1, 1), 0, 2, ints(0, 3, 7, 5, 2), 20},
		// around slow cells to the left, as to the right takes as long
		{ground(5, 3, 1, 1, 1, 1, 1, 1, 100, 100, 100, 1, 1, 1, 1, 1, 1), 2, 12, ints(2, 1, 5, 11, 12), 20},
	} {
		way, n, e := image.Path(x.g, x.source, x.target)
		ok(t, "Path", e)
		same(t, "Path", []any{way, n}, []any{x.way, x.time})
	}
	// the last cell of the long way is 240, and corners are cut
	way, n, e := image.Path(snake(), 0, 240)
	ok(t, "Path", e)
	same(t, "the time of a long way", n, timesOf(snake(), 0)[240])
	same(t, "a long way", []any{wayTime(snake(), way), len(way) > 100, slices.ContainsFunc(way, func(cell int) bool { return snake().Slow[cell] > 1 })}, []any{n, true, false})
}

// P7.1: Path follows its definition: of all ways with the least time it is the first one.
func TestPathByDefinition(t *testing.T) {
	r := random(3)
	several := 0
	for range 2000 {
		g := r.ground(3, 1+r.below(2))
		source, target := r.cell(g), r.cell(g)
		want := bestOf(g, source, target)
		way, n, e := image.Path(g, source, target)
		ok(t, "Path", e)
		same(t, "Path", []any{way, n}, []any{want, wayTime(g, want)})
		ways := waysOf(g, ints(source), target)
		if len(slices.DeleteFunc(ways, func(way []int) bool { return wayTime(g, way) > n })) > 1 {
			several++
		}
	}
	if several < 50 {
		t.Errorf("%d cells had several ways with the least time", several)
	}
}

// P7.1: CheckPath.
func TestCheckPath(t *testing.T) {
	wide := ground(3, 1, 1, 1, 1)
	there := slices.Repeat(ints(0, 1), 128)
	for _, x := range []struct {
		g    image.Ground
		way  []int
		want int
		e    api.Errno
	}{
		{groundG(), ints(0, 1, 0, 3), 27, api.OK}, {groundG(), ints(2), 0, api.OK}, {groundG(), ints(0, 3), 15, api.OK}, {groundG(), ints(1, 0, 2), 14, api.OK}, {groundG(), ints(3, 1, 0, 2, 3), 40, api.OK}, {wide, ints(0, 1, 2), 8, api.OK},
		{groundG(), there, 255 * 6, api.OK}, {groundG(), slices.Concat(there, ints(0)), 0, api.ErrMany}, {groundG(), make([]int, 257), 0, api.ErrMany}, {groundG(), slices.Repeat(ints(-1), 257), 0, api.ErrMany}, {groundG(), nil, 0, api.ErrEmpty}, {groundG(), ints(), 0, api.ErrEmpty},
		{groundG(), ints(4), 0, api.ErrUnknown}, {groundG(), ints(-1), 0, api.ErrUnknown}, {groundG(), ints(0, math.MaxInt), 0, api.ErrUnknown}, {groundG(), ints(math.MinInt, 0), 0, api.ErrUnknown},
		{wide, ints(0, 2), 0, api.ErrRule}, {groundG(), ints(0, 0), 0, api.ErrRule}, {groundG(), ints(0, 1, 1), 0, api.ErrRule}, {even(3, 3, 1), ints(2, 3), 0, api.ErrRule},
		{wide, ints(0, 2, 3), 0, api.ErrRule}, {wide, ints(0, 3, 1), 0, api.ErrUnknown}, {wide, ints(0, 1, 3), 0, api.ErrUnknown},
	} {
		n, e := image.CheckPath(x.g, x.way)
		fails(t, "CheckPath", e, x.e, n)
		same(t, "CheckPath", n, x.want)
	}
	for _, x := range badGrounds() {
		n, e := image.CheckPath(x.g, nil)
		fails(t, "CheckPath in "+x.what, e, x.e, n)
	}
}

// P7.1: CheckPotentials.
func TestCheckPotentials(t *testing.T) {
	most := api.MaxNumber
	for _, x := range []struct {
		source, target int
		l              []int
		want           int
		e              api.Errno
	}{
		{0, 3, ints(0, 6, 8, 15), 15, api.OK}, {3, 0, ints(0, 6, 8, 15), -15, api.OK}, {0, 0, ints(0, 6, 8, 15), 0, api.OK}, {1, 2, ints(6, 0, 14, 12), 14, api.OK}, {0, 3, ints(0, 0, 0, 0), 0, api.OK}, {0, 3, ints(most, most, most, most), 0, api.OK}, {0, 3, ints(-most, 6-most, 8-most, 15-most), 15, api.OK}, {2, 1, ints(0, 0, 0, 12), 0, api.OK}, {0, 3, ints(-3, -9, 0, 0), 3, api.OK},
		{0, 3, ints(0, 6, 8, 16), 0, api.ErrProof}, {0, 0, ints(0, 6, 8, 16), 0, api.ErrProof}, {3, 0, ints(0, -6, -8, -16), 0, api.ErrProof}, {0, 3, ints(7, 0, 0, 0), 0, api.ErrProof}, {0, 3, ints(-most, most, -most, most), 0, api.ErrProof}, {0, 1, ints(0, 7, 8, 15), 0, api.ErrProof}, {0, 1, ints(0, 0, 9, 9), 0, api.ErrProof}, {0, 1, ints(0, 16, 0, 6), 0, api.ErrProof}, {0, 1, ints(0, 0, 0, 13), 0, api.ErrProof}, {0, 1, ints(0, 0, 8, -7), 0, api.ErrProof}, {1, 2, ints(7, 0, 15, 11), 0, api.ErrProof},
		{0, 3, nil, 0, api.ErrShape}, {0, 3, ints(0, 0, 0), 0, api.ErrShape}, {0, 3, make([]int, 5), 0, api.ErrShape}, {0, 3, ints(most+1, 0, 0), 0, api.ErrShape},
		{0, 3, ints(0, 0, 0, most+1), 0, api.ErrRange}, {0, 3, ints(-most-1, 0, 0, 0), 0, api.ErrRange}, {0, 3, ints(0, math.MinInt, 0, 0), 0, api.ErrRange}, {0, 3, ints(0, 0, math.MaxInt, 0), 0, api.ErrRange}, {0, 3, ints(0, 100, 0, most+1), 0, api.ErrRange},
	} {
		n, e := image.CheckPotentials(groundG(), x.source, x.target, x.l)
		fails(t, "CheckPotentials", e, x.e, n)
		same(t, "CheckPotentials", []any{x.l, n}, []any{x.l, x.want})
	}
}

// P7.1: CheckPotentials follows its definition; P8: what potentials prove is not above a time, and times prove themselves.
func TestPotentialsByDefinition(t *testing.T) {
	r := random(4)
	proofs := 0
	for range 400 {
		g := r.ground(4, 6)
		source, target := r.cell(g), r.cell(g)
		l := r.integers(len(g.Slow), 3+r.below(8))
		if r.below(2) == 0 {
			l = timesOf(g, r.cell(g))
			l[r.cell(g)] += r.integer(3)
		}
		n, e := image.CheckPotentials(g, source, target, l)
		if !prove(g, l) {
			fails(t, "CheckPotentials", e, api.ErrProof, n)
			continue
		}
		proofs++
		ok(t, "CheckPotentials", e)
		same(t, "CheckPotentials", n, l[target]-l[source])
		same(t, "what is proved is not above the time", n <= timesOf(g, source)[target], true)
	}
	if proofs < 50 || proofs > 350 {
		t.Errorf("%d potentials proved something", proofs)
	}
}

// P7.1: the errors of CheckTimes.
func TestCheckTimesErrors(t *testing.T) {
	for _, x := range []struct {
		source int
		l      []int
		e      api.Errno
	}{
		{0, ints(0, 6, 8, 14), api.ErrProof}, {0, ints(0, 6, 8, 16), api.ErrProof}, {0, ints(1, 7, 9, 16), api.ErrProof}, {1, ints(0, 6, 8, 15), api.ErrProof}, {0, ints(0, 0, 0, 0), api.ErrProof}, {0, ints(-1, 6, 8, 15), api.ErrProof}, {0, ints(math.MinInt, math.MaxInt, 8, 15), api.ErrProof}, {0, ints(0, -1, 8, 15), api.ErrProof},
		{0, nil, api.ErrShape}, {0, ints(0, 6, 8), api.ErrShape}, {0, ints(0, 6, 8, 15, 0), api.ErrShape},
	} {
		same(t, "CheckTimes", image.CheckTimes(groundG(), x.source, x.l), x.e)
	}
}

// P7.1: the errors of grounds and of cells, in their order.
func TestTimesErrors(t *testing.T) {
	for _, x := range badGrounds() {
		l, e := image.Times(x.g, -1)
		fails(t, "Times in "+x.what, e, x.e, l)
		way, n, e := image.Path(x.g, -1, -1)
		fails(t, "Path in "+x.what, e, x.e, way, n)
		n, e = image.CheckPotentials(x.g, -1, -1, nil)
		fails(t, "CheckPotentials in "+x.what, e, x.e, n)
		same(t, "CheckTimes in "+x.what, image.CheckTimes(x.g, -1, nil), x.e)
	}
	for _, cell := range badCells {
		l, e := image.Times(groundG(), cell)
		fails(t, "Times from a bad cell", e, api.ErrUnknown, l)
		same(t, "CheckTimes from a bad cell", image.CheckTimes(groundG(), cell, nil), api.ErrUnknown)
		for _, x := range [][2]int{{cell, 0}, {0, cell}, {cell, cell}} {
			way, n, e := image.Path(groundG(), x[0], x[1])
			fails(t, "Path between bad cells", e, api.ErrUnknown, way, n)
			n, e = image.CheckPotentials(groundG(), x[0], x[1], nil)
			fails(t, "CheckPotentials between bad cells", e, api.ErrUnknown, n)
		}
	}
}
