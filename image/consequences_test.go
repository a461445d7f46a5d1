package image_test

import (
	"slices"
	"testing"

	"moveout/api"
	"moveout/image"
	"moveout/trace"
)

// rounds is how many random arguments a consequence is tried with.
const rounds = 200

// times returns the times from a cell, without an error.
func times(t *testing.T, g image.Ground, source int) []int {
	t.Helper()
	l, e := image.Times(g, source)
	ok(t, "Times", e)
	return l
}

// walk returns any way of at most 256 cells.
func (r *random) walk(g image.Ground) []int {
	way := ints(r.cell(g))
	for range r.below(256) {
		last := way[len(way)-1]
		next := last + r.integer(1)*g.Columns + r.integer(1)
		if next < 0 || next >= len(g.Slow) {
			continue
		}
		if _, near := costOf(g, last, next); near {
			way = append(way, next)
		}
	}
	return way
}

// P7.5, P8: the time of any way is not less than that between its ends, and that of the best way is it.
func TestNoWayIsFaster(t *testing.T) {
	r := random(11)
	for range rounds {
		g := r.ground(16, 100)
		way := r.walk(g)
		n, e := image.CheckPath(g, way)
		ok(t, "CheckPath", e)
		source, target := way[0], way[len(way)-1]
		best, least, e := image.Path(g, source, target)
		ok(t, "Path", e)
		same(t, "no way is faster", n >= least, true)
		same(t, "the ends of the best way", []int{best[0], best[len(best)-1]}, ints(source, target))
		same(t, "the time of the best way", times(t, g, source)[target], least)
		n, e = image.CheckPath(g, best)
		ok(t, "CheckPath", e)
		same(t, "the time of the best way as a way", n, least)
		slices.Reverse(best)
		n, e = image.CheckPath(g, best)
		ok(t, "CheckPath", e)
		same(t, "the time of the best way backwards", n, least)
	}
}

// P7.5, P8: times are the same in both directions, keep the triangle, and are potentials that prove themselves.
func TestTimesProveThemselves(t *testing.T) {
	r := random(12)
	for range rounds {
		g := r.ground(16, 100)
		a, b, c := r.cell(g), r.cell(g), r.cell(g)
		from, back := times(t, g, a), times(t, g, b)
		same(t, "the time back", back[a], from[b])
		same(t, "the triangle", from[c] <= from[b]+back[c], true)
		n, e := image.CheckPotentials(g, a, b, from)
		ok(t, "CheckPotentials", e)
		same(t, "times prove themselves", n, from[b])
		for i := range back {
			back[i] = -back[i]
		}
		n, e = image.CheckPotentials(g, a, b, back)
		ok(t, "CheckPotentials", e)
		same(t, "opposite times prove the same", n, from[b])
		same(t, "CheckTimes", image.CheckTimes(g, a, from), api.OK)
		same(t, "CheckTimes from another cell", image.CheckTimes(g, b, from) == api.OK, a == b)
	}
}

// P7.5: mirrored grounds have mirrored times, and are the ground again if they are mirrored twice.
func TestMirroredTimes(t *testing.T) {
	r := random(13)
	for range rounds {
		g := r.ground(16, 100)
		cell := r.cell(g)
		want := times(t, g, cell)
		for _, x := range []struct {
			mirror func(g image.Ground) (image.Ground, api.Errno)
			to     func(column, row int) int
		}{
			{func(g image.Ground) (image.Ground, api.Errno) { return image.Mirrored(g, false) }, func(column, row int) int { return row*g.Columns + g.Columns - 1 - column }},
			{func(g image.Ground) (image.Ground, api.Errno) { return image.Mirrored(g, true) }, func(column, row int) int { return (g.Rows-1-row)*g.Columns + column }},
			{image.Transposed, func(column, row int) int { return column*g.Rows + row }},
		} {
			m, e := x.mirror(g)
			ok(t, "mirrored", e)
			to := func(cell int) int { return x.to(cell%g.Columns, cell/g.Columns) }
			got := times(t, m, to(cell))
			for i := range want {
				same(t, "a mirrored cell", m.Slow[to(i)], g.Slow[i])
				same(t, "a mirrored time", got[to(i)], want[i])
			}
			again, e := x.mirror(m)
			ok(t, "mirrored again", e)
			same(t, "mirrored again", again, g)
		}
	}
}

// large returns a survey of a ground with traces of any length and pairs.
func (r *random) large(g image.Ground) image.Survey {
	s := r.survey(g, 16)
	s.Length, s.Unit, s.Most = 1+r.below(256), 1+r.below(1000)>>r.below(9), r.below(257)>>r.below(8)
	return s
}

// inner returns an inner product, without an error.
func inner(t *testing.T, a, b []int) int {
	t.Helper()
	n, e := image.Inner(a, b)
	ok(t, "Inner", e)
	return n
}

// products returns the inner product of the traces of a model with traces, and that of the model with their image.
func products(t *testing.T, g image.Ground, s image.Survey, model []int, data [][]int) [2]int {
	t.Helper()
	traces, e := image.Model(g, s, model)
	ok(t, "Model", e)
	ours, e := image.Flat(g, s, traces)
	ok(t, "Flat", e)
	theirs, e := image.Flat(g, s, data)
	ok(t, "Flat", e)
	whole, e := image.Image(g, s, data)
	ok(t, "Image", e)
	return [2]int{inner(t, ours, theirs), inner(t, model, whole)}
}

// P7.5, P8: the inner products of the operator and its adjoint agree.
func TestAdjoint(t *testing.T) {
	r := random(14)
	imaged := 0
	for range rounds {
		g := r.ground(16, 100)
		s := r.large(g)
		n := products(t, g, s, r.integers(len(g.Slow), 1000), r.traces(s, 1<<20))
		same(t, "the inner products agree", n[0], n[1])
		if n[0] != 0 {
			imaged++
		}
	}
	if imaged < rounds/2 {
		t.Errorf("%d images had cells with samples", imaged)
	}
	// with the greatest integers, too
	s := image.Survey{Unit: 1, Length: 256, Most: 256, Pairs: slices.Repeat([]image.Pair{pair(0, 255)}, 16)}
	model, data := slices.Repeat(ints(1000), 256), slices.Repeat([][]int{slices.Repeat(ints(-1<<20), 256)}, 16)
	same(t, "the greatest inner products", products(t, even(16, 16, 1), s, model, data), [2]int{-256 * 1000 << 24, -256 * 1000 << 24})
}

// P7.5, P8: images by tiles are the image.
func TestTilesAreTheImage(t *testing.T) {
	r := random(23)
	for range rounds {
		g := r.ground(16, 100)
		s := r.large(g)
		data := r.traces(s, 1<<20)
		whole, e := image.Image(g, s, data)
		ok(t, "Image", e)
		var tiles []int
		for from := 0; from < g.Rows; {
			to := from + 1 + r.below(g.Rows-from)
			tile, e := image.Tile(g, s, data, api.Span{From: from, To: to})
			ok(t, "Tile", e)
			tiles, from = append(tiles, tile...), to
		}
		same(t, "the tiles are the image", tiles, whole)
	}
}

// P7.5: holes play no part: the same survey without them has the same results.
func TestHolesPlayNoPart(t *testing.T) {
	r := random(15)
	holes := 0
	for range rounds {
		g := r.ground(6, 30)
		s := r.survey(g, 8)
		data := r.traces(s, 1<<20)
		less, rest := s, [][]int(nil)
		less.Pairs = nil
		for i, p := range s.Pairs {
			if p.Hole {
				holes++
				l, e := image.Delays(g, s, i)
				ok(t, "Delays", e)
				same(t, "the samples of a hole", l, slices.Repeat(ints(-1), len(g.Slow)))
				continue
			}
			less.Pairs, rest = append(less.Pairs, p), append(rest, data[i])
		}
		model := r.integers(len(g.Slow), 1000)
		traces, e := image.Model(g, s, model)
		ok(t, "Model", e)
		fewer, e := image.Model(g, less, model)
		ok(t, "Model", e)
		same(t, "Model without holes", flatOf(traces), flatOf(fewer))
		for _, f := range []func(s image.Survey, data [][]int) (any, api.Errno){
			func(s image.Survey, data [][]int) (any, api.Errno) { x, e := image.Image(g, s, data); return x, e },
			func(s image.Survey, data [][]int) (any, api.Errno) { x, e := image.Flat(g, s, data); return x, e },
			func(s image.Survey, data [][]int) (any, api.Errno) {
				x, e := image.Misfit(g, s, model, data)
				return x, e
			},
			func(s image.Survey, data [][]int) (any, api.Errno) {
				x, e := image.Amplitude(g, s, data, 0)
				return x, e
			},
		} {
			x, e1 := f(s, data)
			y, e2 := f(less, rest)
			same(t, "a result without holes", y, x)
			same(t, "an error without holes", e2, e1)
		}
	}
	if holes < rounds/2 {
		t.Errorf("there were %d holes", holes)
	}
}

// dual returns traces without an image: integers at samples that no cell has, and opposite ones for a pair that is there twice.
func (r *random) dual(g image.Ground, s image.Survey) [][]int {
	out := r.traces(s, 1)
	for i, p := range s.Pairs {
		delays := delaysOf(g, s, p)
		for at := range out[i] {
			out[i][at] = r.integer(1000)
			if slices.Contains(delays, at) {
				out[i][at] = 0
			}
			if first := slices.Index(s.Pairs, p); first < i && out[first][at] == 0 {
				out[i][at] = r.integer(1000)
				out[first][at] = -out[i][at]
			}
		}
	}
	return out
}

// P7.5, P8: no misfit is below a bound, and there are models that reach it.
func TestNoMisfitIsBelow(t *testing.T) {
	r := random(16)
	for range rounds {
		g := r.ground(4, 30)
		s := r.survey(g, 6)
		dual, data := r.dual(g, s), r.traces(s, 1000)
		model := r.integers(len(g.Slow), 1000)
		bound, e := image.Bound(g, s, data, dual)
		ok(t, "Bound", e)
		n, e := image.Misfit(g, s, model, data)
		ok(t, "Misfit", e)
		same(t, "no misfit is below a bound", n >= bound, true)
		// traces that are those of a model and the dual ones together
		data, e = image.Model(g, s, model)
		ok(t, "Model", e)
		for i := range data {
			for at := range data[i] {
				data[i][at] += dual[i][at]
			}
		}
		n, e = image.Misfit(g, s, model, data)
		ok(t, "Misfit", e)
		bound, e = image.Bound(g, s, data, dual)
		ok(t, "Bound", e)
		same(t, "a misfit that reaches the bound", n, bound)
		same(t, "what both are", n, innerOf(flatOf(dual), flatOf(dual)))
	}
}

// P7.3: of all models that are 0 but in a cell, the one with its amplitude has the least misfit.
func TestAmplitudeIsBest(t *testing.T) {
	r := random(17)
	tried := 0
	for range rounds {
		g := r.ground(3, 30)
		s := r.survey(g, 6)
		data, cell := r.traces(s, 500), r.cell(g)
		x, e := image.Amplitude(g, s, data, cell)
		if e == api.ErrSingular {
			continue
		}
		ok(t, "Amplitude", e)
		tried++
		misfit := func(n int) int {
			model := make([]int, len(g.Slow))
			model[cell] = n
			m, e := image.Misfit(g, s, model, data)
			ok(t, "Misfit", e)
			return m
		}
		// The misfit is a square in the integer of the cell: among integers those next to its least place are best.
		for n := -600; n <= 600; n += 1 + r.below(200) {
			best := min(misfit(x.Num/x.Den-1), misfit(x.Num/x.Den), misfit(x.Num/x.Den+1))
			same(t, "another amplitude is not better", misfit(n) >= best, true)
			nearer := absolute(n*x.Den-x.Num) < absolute((n+1)*x.Den-x.Num)
			same(t, "what is nearer to the amplitude is better", misfit(n) < misfit(n+1), nearer)
		}
	}
	if tried < rounds/4 {
		t.Errorf("%d cells had samples", tried)
	}
}

// P7.5: a panel that goes down and up through layers is itself.
func TestDownAndUp(t *testing.T) {
	r := random(18)
	for range rounds {
		p, layers := r.panel(65536), r.layers()
		for _, up := range []bool{false, true} {
			there, e := image.Through(p, layers, up)
			ok(t, "Through", e)
			back, e := image.Through(there, layers, !up)
			ok(t, "Through", e)
			same(t, "there and back", back == p, true)
		}
		by := r.integer(100000)
		there, e := image.Delay(p, by)
		ok(t, "Delay", e)
		back, e := image.Delay(there, -by)
		ok(t, "Delay", e)
		same(t, "delayed there and back", back == p, true)
	}
}

// P7.4: the panel of four samples, delayed, is that of the samples that come round.
func TestDelayedSamples(t *testing.T) {
	r := random(19)
	for range rounds {
		var l, later [4]float32
		by := r.below(100001)
		for i, n := range r.integers(4, 16384) {
			l[i] = float32(n) / 16
			later[(i+by)%4] = l[i]
		}
		p, e := trace.Transform(l)
		ok(t, "Transform", e)
		want, e := trace.Transform(later)
		ok(t, "Transform", e)
		got, e := image.Delay(p, by)
		ok(t, "Delay", e)
		same(t, "Delay", got == want, true)
	}
}

// P7.5: grounds are parsed as they were printed.
func TestParsePrinted(t *testing.T) {
	r := random(20)
	for range rounds {
		g := r.ground(16, 100)
		s, e := image.Print(g)
		ok(t, "Print", e)
		back, line, e := image.Parse(s)
		ok(t, "Parse", e)
		same(t, "Parse of Print", []any{back, line}, []any{g, 0})
		again, e := image.Print(back)
		ok(t, "Print", e)
		same(t, "Print of Parse", again, s)
	}
}
