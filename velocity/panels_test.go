package velocity_test

import (
	"math"
	"slices"
	"testing"

	"moveout/api"
	"moveout/trace"
	"moveout/velocity"
)

// P6.1: Semblance.
func TestSemblance(t *testing.T) {
	for _, x := range []struct {
		t, v, window, stretch int
		want                  api.Ratio
	}{
		{2, 1, 0, 4, api.Ratio{Num: 9, Den: 10}}, {2, 1, 1, 4, api.Ratio{Num: 13, Den: 18}}, {2, 1, 16, 4, api.Ratio{Num: 17, Den: 26}}, {0, 1, 0, 4, api.Ratio{Num: 1, Den: 2}}, {0, 1, 0, 0, api.Ratio{Num: 0, Den: 1}}, {3, 1, 0, 4, api.Ratio{Num: 0, Den: 1}}, {3, 1, 1, 4, api.Ratio{Num: 9, Den: 10}}, {1, 1, 1, 0, api.Ratio{Num: 9, Den: 10}},
	} {
		got, e := velocity.Semblance(gatherG(), x.t, x.v, x.window, x.stretch)
		ok(t, "Semblance", e)
		same(t, "Semblance", []any{x.t, x.window, x.stretch, got}, []any{x.t, x.window, x.stretch, x.want})
	}
	one := trace.Shot{Name: "one", Traces: []trace.Trace{{Samples: samples(-3)}}}
	got, e := velocity.Semblance(one, 0, 1, 16, 0)
	ok(t, "Semblance", e)
	same(t, "Semblance of one trace", got, api.Ratio{Num: 1, Den: 1})
	opposite := trace.Shot{Name: "two", Traces: []trace.Trace{{Samples: samples(-3)}, {Samples: samples(3)}}}
	got, e = velocity.Semblance(opposite, 0, 1, 0, 0)
	ok(t, "Semblance", e)
	same(t, "Semblance of opposite traces", got, api.Ratio{Num: 0, Den: 1})
}

// P6.1: the integers of a semblance may be above MaxNumber.
func TestLargeSemblance(t *testing.T) {
	large := trace.Shot{Name: "large"}
	for i := range 64 {
		l := slices.Repeat(samples(16384), 1024)
		if i == 63 {
			l = slices.Repeat(samples(16383), 1024)
		}
		large.Traces = append(large.Traces, trace.Trace{Samples: l})
	}
	sum, squares := 64*16384-1, 63*16384*16384+16383*16383
	for window := range 17 {
		got, e := velocity.Semblance(large, 500, 1, window, 0)
		ok(t, "Semblance", e)
		same(t, "Semblance of the greatest samples", got, ratioOf(ratio(sum*sum, 64*squares)))
	}
	p, e := velocity.Panel(large, velocity.Setting{Fan: fan(16), Window: 16, Every: 16})
	ok(t, "Panel", e)
	same(t, "Panel of the greatest samples", []int{len(p), len(p[63]), p[0][0], p[63][15]}, []int{64, 16, 1023, 1023})
}

// P6.1: Panel.
func TestPanel(t *testing.T) {
	p, e := velocity.Panel(gatherG(), settingX())
	ok(t, "Panel", e)
	same(t, "Panel", p, [][]int{{512, 0}, {921, 921}})
	p, e = velocity.Panel(gatherG(), velocity.Setting{Fan: ints(1), Stretch: 4, Every: 4})
	ok(t, "Panel", e)
	same(t, "Panel of one time", p, [][]int{{512}})
	p, e = velocity.Panel(gatherG(), velocity.Setting{Fan: ints(1), Stretch: 4, Every: 3})
	ok(t, "Panel", e)
	same(t, "Panel of the times 0 and 3", p, [][]int{{512}, {0}})
	p, e = velocity.Panel(gatherG(), velocity.Setting{Fan: ints(9), Window: 16, Stretch: 4, Every: 1024})
	ok(t, "Panel", e)
	same(t, "Panel with a step beyond the width", p, [][]int{{921}})
}

// P6.1: Semblance, Panel and Stacked follow their definitions.
func TestPanelsByDefinition(t *testing.T) {
	r := random(3)
	for range 150 {
		g, x := r.gather(1+r.below(9), 1+r.below(16384)), r.setting(3)
		for i := range widthOf(g) {
			for _, v := range x.Fan {
				got, e := velocity.Semblance(g, i, v, x.Window, x.Stretch)
				ok(t, "Semblance", e)
				same(t, "Semblance", got, ratioOf(semblanceOf(g, i, v, x.Window, x.Stretch)))
			}
		}
		if widthOf(g) == 0 {
			continue
		}
		p, e := velocity.Panel(g, x)
		ok(t, "Panel", e)
		same(t, "Panel", p, panelOf(g, x))
		path := r.path(len(p), len(x.Fan))
		stack, e := velocity.Stacked(g, x, path)
		ok(t, "Stacked", e)
		same(t, "Stacked", stack, stackOf(g, x, path))
	}
}

// P6.1: Stacked.
func TestStacked(t *testing.T) {
	// at 0 and 1 by one velocity, at 2 and 3 by another one
	for _, x := range []struct {
		path []int
		want []float32
	}{
		{ints(0, 0), []float32{4, 4, 6, 0}}, {ints(1, 0), []float32{0, 0, 6, 0}}, {ints(0, 1), []float32{4, 4, 6, 0}}, {ints(1, 1), []float32{0, 0, 6, 0}},
	} {
		got, e := velocity.Stacked(gatherG(), settingX(), x.path)
		ok(t, "Stacked", e)
		same(t, "Stacked", []any{x.path, plain(got)}, []any{x.path, x.want})
	}
	halves := trace.Shot{Name: "h", Traces: []trace.Trace{{Samples: samples(1, -1, 16384, 3)}, {Samples: samples(2, -2, 16384, -16384)}}}
	got, e := velocity.Stacked(halves, velocity.Setting{Fan: ints(1), Every: 1}, ints(0, 0, 0, 0))
	ok(t, "Stacked", e)
	same(t, "Stacked from the middle to the greater integer", got, samples(2, -1, 16384, -8190))
	// moved beyond the width no trace is live
	far := trace.Shot{Name: "far", Traces: []trace.Trace{{Header: at(3, 0), Samples: samples(5, 6, 7)}}}
	got, e = velocity.Stacked(far, velocity.Setting{Fan: ints(1), Stretch: 1024, Every: 3}, ints(0))
	ok(t, "Stacked", e)
	same(t, "Stacked without live traces", got, samples(0, 0, 0))
	for _, s := range []trace.Shot{holes(), wide(0)} {
		got, e := velocity.Stacked(s, settingX(), nil)
		ok(t, "Stacked", e)
		same(t, "Stacked without times", got, samples())
	}
	// the times of a stack may be more than those of a panel
	path := make([]int, 1024)
	got, e = velocity.Stacked(wide(1024), velocity.Setting{Fan: ints(7), Every: 1}, path)
	ok(t, "Stacked", e)
	same(t, "Stacked by 1024 rows", got, make([]float32, 1024))
}

// P6.1: the errors of Semblance, Panel and Stacked.
func TestPanelErrors(t *testing.T) {
	for _, x := range badShots() {
		for _, y := range []velocity.Setting{settingX(), {}} {
			p, e := velocity.Panel(x.s, y)
			fails(t, "Panel of "+x.what, e, x.e, p)
			l, e := velocity.Stacked(x.s, y, nil)
			fails(t, "Stacked of "+x.what, e, x.e, l)
		}
		s, e := velocity.Semblance(x.s, -1, -1, -1, -1)
		fails(t, "Semblance of "+x.what, e, x.e, s)
	}
	for _, x := range badSettings() {
		for _, g := range []trace.Shot{gatherG(), holes(), wide(1024)} {
			p, e := velocity.Panel(g, x.x)
			fails(t, "Panel by "+x.what, e, x.e, p)
			l, e := velocity.Stacked(g, x.x, ints(9, 9))
			fails(t, "Stacked by "+x.what, e, x.e, l)
		}
	}
	for _, x := range [][4]int{{-1, 1, 0, 0}, {4, 1, 0, 0}, {math.MinInt, 1, 0, 0}, {math.MaxInt, 1, 0, 0}} {
		s, e := velocity.Semblance(gatherG(), x[0], x[1], x[2], x[3])
		fails(t, "Semblance at a bad time", e, api.ErrRange, s)
	}
	for _, v := range badVelocities {
		s, e := velocity.Semblance(gatherG(), 0, v, 0, 0)
		fails(t, "Semblance by a bad velocity", e, api.ErrRange, s)
	}
	for _, n := range badWindows {
		s, e := velocity.Semblance(gatherG(), 0, 1, n, 0)
		fails(t, "Semblance by a bad window", e, api.ErrRange, s)
	}
	for _, n := range badStretches {
		s, e := velocity.Semblance(gatherG(), 0, 1, 0, n)
		fails(t, "Semblance by a bad stretch", e, api.ErrRange, s)
	}
}

// P6.1: the errors of the number of times, and of paths.
func TestTimesErrors(t *testing.T) {
	for _, s := range []trace.Shot{holes(), wide(0)} {
		p, e := velocity.Panel(s, settingX())
		fails(t, "Panel without times", e, api.ErrEmpty, p)
		r, e := velocity.Semblance(s, 0, 1, 0, 0)
		fails(t, "Semblance without times", e, api.ErrRange, r)
		l, e := velocity.Stacked(s, settingX(), ints(0))
		fails(t, "Stacked without times", e, api.ErrShape, l)
	}
	for width, every := range map[int]int{65: 1, 129: 2, 1024: 16} {
		x := velocity.Setting{Fan: ints(1), Every: every}
		if width < 1024 {
			p, e := velocity.Panel(wide(width), x)
			fails(t, "Panel with 65 times", e, api.ErrMany, p)
			width--
		}
		p, e := velocity.Panel(wide(width), x)
		ok(t, "Panel with 64 times", e)
		same(t, "Panel with 64 times", p, flat(64, 1))
	}
	for _, x := range []struct {
		path []int
		e    api.Errno
	}{
		{nil, api.ErrShape}, {ints(0), api.ErrShape}, {ints(0, 0, 0), api.ErrShape}, {ints(2, 0, 0), api.ErrShape}, {make([]int, 100), api.ErrShape}, {ints(0, 2), api.ErrUnknown}, {ints(-1, 0), api.ErrUnknown}, {ints(0, math.MaxInt), api.ErrUnknown}, {ints(math.MinInt, 0), api.ErrUnknown},
	} {
		l, e := velocity.Stacked(gatherG(), settingX(), x.path)
		fails(t, "Stacked by a bad path", e, x.e, l)
	}
}
