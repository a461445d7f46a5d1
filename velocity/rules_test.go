package velocity_test

import (
	"math"
	"reflect"
	"slices"
	"strings"
	"testing"

	"moveout/api"
	"moveout/trace"
	"moveout/velocity"
)

// extremes are integers of any size.
var extremes = []int{math.MinInt, -1, 0, 1, 2, 16, 17, 1024, 1025, 80000000000, math.MaxInt}

func oddShots() []trace.Shot {
	g := gatherG()
	g.Traces[2].Header = g.Traces[1].Header
	far := trace.Shot{Name: "far", Traces: []trace.Trace{{Header: [8]int{-100000, -100000, 100000, 100000, 100000}, Samples: samples(1, -2)}, {Samples: []float32{1024, -1024}}}}
	l := []trace.Shot{{}, g, far, holes(), wide(0), wide(1), wide(1024), {Name: "a", Traces: make([]trace.Trace, 100000)}}
	for _, x := range badShots() {
		l = append(l, x.s)
	}
	for _, n := range extremes {
		s := gatherG()
		s.Traces[1].Header = [8]int{n, n, n, n, n, n, n, n}
		l = append(l, s)
	}
	return l
}

func oddSettings() []velocity.Setting {
	l := []velocity.Setting{settingX(), {Fan: fan(16), Window: 16, Stretch: 1024, Every: 1}, {Fan: make([]int, 100000)}, {Fan: ints(1000000000), Every: 1024}, {Fan: extremes}}
	for _, x := range badSettings() {
		l = append(l, x.x)
	}
	for _, n := range extremes {
		l = append(l, velocity.Setting{Fan: ints(n), Window: 16, Stretch: 4, Every: 2}, velocity.Setting{Fan: ints(1, n), Window: n, Stretch: n, Every: n})
	}
	return l
}

func oddPanels() [][][]int {
	l := [][][]int{panelP(), {{512, 0}, {921, 921}}, flat(64, 16), flat(1, 16), flat(2, 1), make([][]int, 100000), {extremes}, {make([]int, 100000)}}
	for _, x := range badPanels() {
		l = append(l, x.p)
	}
	for _, n := range extremes {
		l = append(l, [][]int{{n}}, [][]int{{1, 2}, {n, 3}})
	}
	return l
}

func oddLimits() []velocity.Limits {
	l := slices.Clone(badLimits)
	for _, n := range extremes {
		for _, m := range extremes {
			l = append(l, limits(n, m))
		}
	}
	return l
}

func oddPaths() [][]int {
	l := [][]int{nil, {}, extremes, make([]int, 2), make([]int, 3), make([]int, 64), make([]int, 1024), make([]int, 100000)}
	for _, n := range extremes {
		l = append(l, ints(n), ints(0, n), ints(n, n, n))
	}
	return l
}

func oddPicks() [][]velocity.Pick {
	l := [][]velocity.Pick{nil, twoPicks(0), twoPicks(1), rising(64), {pick(1024, 1000000000, 1000000000)}, {pick(1, 1, 1000000000), pick(1024, 1000000000, 0)}, make([]velocity.Pick, 100000)}
	for _, x := range badPickLists() {
		l = append(l, x.l)
	}
	for _, n := range extremes {
		l = append(l, []velocity.Pick{pick(n, n, n)}, []velocity.Pick{pick(1, 1, 0), pick(n, 1, n)})
	}
	return l
}

func oddBounds() []api.Interval {
	var l []api.Interval
	for _, n := range append(slices.Clone(extremes), 1000000000, 1000000001) {
		for _, m := range []int{math.MinInt, 1, n, 1000000000, math.MaxInt} {
			l = append(l, span(n, m))
		}
	}
	return l
}

func oddTexts() []string {
	return []string{"", "\n", " ", "\x00", "\xff\xfe\n", "pick", "pick \n", "pick 1 1 1\n", "pick 9999999999 9999999999 9999999999\n", strings.Repeat("\n", 4096), strings.Repeat(" ", 4096), strings.Repeat("pick 1 1 0\n", 372), strings.Repeat("9", 4096), strings.Repeat("x", 1000000)}
}

// The limits are those of the chapter.
func TestLimits(t *testing.T) {
	got := []int{velocity.MaxSquare, velocity.MaxVelocity, velocity.MaxRows, velocity.MaxWindow, velocity.MaxTimes, velocity.Unit, velocity.MaxRivals, velocity.MaxPicks}
	same(t, "the limits", got, []int{80000000000, 1000000000, 16, 16, 64, 1024, 8, 64})
}

// P1: no function panics, and together with an error every other result is its zero value.
func TestOddArguments(t *testing.T) {
	combine(t, velocity.Moved, extremes, extremes, extremes)
	combine(t, velocity.CheckSetting, oddSettings())
	combine(t, velocity.Live, oddShots(), extremes, extremes, extremes)
	combine(t, velocity.Corrected, oddShots(), extremes, extremes)
	combine(t, velocity.Semblance, oddShots(), []int{math.MinInt, 0, 1, 3}, []int{0, 1, math.MaxInt}, extremes, extremes)
	combine(t, velocity.Panel, oddShots(), oddSettings())
	combine(t, velocity.CheckPanel, oddPanels())
	combine(t, velocity.CheckPath, oddPanels(), oddLimits(), oddPaths())
	combine(t, velocity.Best, oddPanels(), oddLimits())
	combine(t, velocity.Rivals, oddPanels(), oddLimits(), []int{math.MinInt, 0, 1, 8, 9, math.MaxInt})
	combine(t, velocity.Potentials, oddPanels(), oddLimits())
	combine(t, velocity.CheckPotentials, oddPanels(), oddLimits(), oddPanels())
	combine(t, velocity.Picks, oddSettings(), oddPaths(), extremes)
	combine(t, velocity.CheckPicks, oddPicks())
	combine(t, velocity.Refused, oddPicks(), oddBounds())
	combine(t, velocity.Moments, oddPicks(), oddBounds())
	combine(t, velocity.CheckMoments, oddPicks(), oddBounds(), oddPaths())
	combine(t, velocity.Layers, oddPicks(), oddPaths())
	combine(t, velocity.Stacked, oddShots(), oddSettings(), oddPaths())
	combine(t, velocity.Print, oddPicks())
	combine(t, velocity.Parse, oddTexts())
}

// combine calls a function with all combinations of the elements of some lists.
func combine(t *testing.T, f any, lists ...any) {
	t.Helper()
	calls := [][]reflect.Value{nil}
	for _, list := range lists {
		l := reflect.ValueOf(list)
		var longer [][]reflect.Value
		for _, args := range calls {
			for j := range l.Len() {
				longer = append(longer, append(slices.Clone(args), l.Index(j)))
			}
		}
		calls = longer
	}
	_, isParse := f.(func(string) ([]velocity.Pick, int, api.Errno))
	for _, args := range calls {
		out := reflect.ValueOf(f).Call(args)
		e := out[len(out)-1].Interface().(api.Errno)
		for i, x := range out[:len(out)-1] {
			// Parse gives an index beside its errors.
			if isParse && i == 1 {
				continue
			}
			if e != api.OK && !reflect.ValueOf(plain(x.Interface())).IsZero() {
				t.Errorf("a result beside the error %v is %v", e, x)
			}
		}
	}
}

// mess changes all integers of a list, also those behind its end.
func mess(l []int) {
	l = l[:cap(l)]
	for i := range l {
		l[i] = -99
	}
}

// The rule 'Memory' for gathers, settings and paths.
func TestMemoryOfGathers(t *testing.T) {
	room := []float32{9, 9, 9}
	g, x, path := gatherG(), settingX(), ints(0, 1)
	g.Traces[2].Samples = room[:0]
	kept := clone(g)
	got, e := velocity.Corrected(g, 4, 4)
	ok(t, "Corrected", e)
	want := clone(got)
	for i := range got.Traces {
		l := got.Traces[i].Samples[:cap(got.Traces[i].Samples)]
		for j := range l {
			l[j] = -99
		}
		if i == 0 {
			same(t, "another trace", got.Traces[1].Samples, want.Traces[1].Samples)
		}
		got.Traces[i].Header[0] = -99
	}
	same(t, "the argument of Corrected", g, kept)
	same(t, "the place behind a hole", room, []float32{9, 9, 9})
	again, e := velocity.Corrected(g, 4, 4)
	ok(t, "Corrected", e)
	same(t, "Corrected again", again, want)
	for range 2 {
		l, e := velocity.Live(g, 0, 1, 4)
		ok(t, "Live", e)
		same(t, "Live", l, ints(0, 1))
		mess(l)
		p, e := velocity.Panel(g, x)
		ok(t, "Panel", e)
		same(t, "Panel", p, [][]int{{512, 0}, {921, 921}})
		mess(p[0])
		same(t, "another time of a panel", p[1], ints(921, 921))
		mess(p[1])
		stack, e := velocity.Stacked(g, x, path)
		ok(t, "Stacked", e)
		same(t, "Stacked", stack, []float32{4, 4, 6, 0})
		clear(stack[:cap(stack)])
		picks, e := velocity.Picks(x, path, 1)
		ok(t, "Picks", e)
		same(t, "Picks", picks, []velocity.Pick{pick(2, 4, 1)})
		clear(picks[:cap(picks)])
	}
	same(t, "the gather", g, kept)
	same(t, "the setting and the path", []any{x.Fan, path}, []any{ints(1, 4), ints(0, 1)})
	for i := range g.Traces {
		clear(g.Traces[i].Samples)
		g.Traces[i].Header[0] = 7
	}
	same(t, "Corrected when the argument is changed", again, want)
}

// The rule 'Memory' for panels and paths.
func TestMemoryOfPaths(t *testing.T) {
	p, x := panelP(), limits(1, 1)
	for range 2 {
		path, n, e := velocity.Best(p, x)
		ok(t, "Best", e)
		same(t, "Best", []any{path, n}, []any{ints(0, 1, 2), 14})
		mess(path)
		l, e := velocity.Rivals(p, x, 3)
		ok(t, "Rivals", e)
		same(t, "Rivals", l, [][]int{{0, 1, 2}, {2, 1, 2}, {2, 2, 2}})
		mess(l[0])
		same(t, "other rivals", l[1:], [][]int{{2, 1, 2}, {2, 2, 2}})
		mess(l[1])
		mess(l[2])
		l, e = velocity.Potentials(p, x)
		ok(t, "Potentials", e)
		same(t, "Potentials", l, [][]int{{14, 10, 13}, {3, 9, 8}, {2, 2, 6}})
		_, e = velocity.CheckPotentials(p, x, l)
		ok(t, "CheckPotentials", e)
		same(t, "the potentials", l, [][]int{{14, 10, 13}, {3, 9, 8}, {2, 2, 6}})
		mess(l[0])
		same(t, "other potentials", l[1:], [][]int{{3, 9, 8}, {2, 2, 6}})
		mess(l[2])
		given := ints(0, 1, 2)
		_, e = velocity.CheckPath(p, x, given)
		ok(t, "CheckPath", e)
		same(t, "the path", given, ints(0, 1, 2))
	}
	same(t, "the panel", p, panelP())
}

// The rule 'Memory' for picks and moments.
func TestMemoryOfPicks(t *testing.T) {
	l, b, given := twoPicks(1), span(2, 7), ints(50, 120)
	for range 2 {
		_, _, e := velocity.Refused(l, b)
		ok(t, "Refused", e)
		m, e := velocity.Moments(l, b)
		ok(t, "Moments", e)
		same(t, "Moments", m, ints(50, 120))
		mess(m)
		ok(t, "CheckMoments", velocity.CheckMoments(l, b, given))
		layers, e := velocity.Layers(l, given)
		ok(t, "Layers", e)
		same(t, "Layers", layers, []api.Ratio{{Num: 5, Den: 1}, {Num: 7, Den: 1}})
		clear(layers[:cap(layers)])
		s, e := velocity.Print(l)
		ok(t, "Print", e)
		back, _, e := velocity.Parse(s)
		ok(t, "Parse", e)
		same(t, "Parse", back, twoPicks(1))
		clear(back[:cap(back)])
	}
	same(t, "the picks and the moments", []any{l, given}, []any{twoPicks(1), ints(50, 120)})
}

// isMinus0 reports whether a number is -0.
func isMinus0(x float32) bool {
	return x == 0 && math.Signbit(float64(x))
}

// The rule 'Numbers': -0 in an argument is 0, and no result is -0.
func TestMinusZero(t *testing.T) {
	g := trace.Shot{Name: "m", Traces: []trace.Trace{{Samples: []float32{minus0, 1, minus0, minus0}}, {Header: at(0, 2), Samples: []float32{minus0, minus0, -1, minus0}}, {Header: at(1, 1), Samples: slices.Repeat([]float32{minus0}, 4)}}}
	corrected, e := velocity.Corrected(g, 1, 4)
	ok(t, "Corrected", e)
	for _, x := range corrected.Traces {
		same(t, "Corrected: a -0", slices.ContainsFunc(x.Samples, isMinus0), false)
	}
	stack, e := velocity.Stacked(g, settingX(), ints(1, 0))
	ok(t, "Stacked", e)
	same(t, "Stacked: a -0", slices.ContainsFunc(stack, isMinus0), false)
	s, e := velocity.Semblance(g, 0, 1, 1, 4)
	ok(t, "Semblance", e)
	same(t, "Semblance of -0", s, ratioOf(semblanceOf(g, 0, 1, 1, 4)))
}

// The rule 'Determinism': the same call has the same result again.
func TestSameAgain(t *testing.T) {
	r := random(31)
	for range 50 {
		g, x, y := r.gather(1+r.below(9), 99), r.setting(3), r.limits(4)
		p, l, b := r.panel(4, 4, 3), r.picks(5), r.bounds()
		for _, f := range []func() (any, api.Errno){
			func() (any, api.Errno) { x, e := velocity.Panel(g, x); return x, e },
			func() (any, api.Errno) { x, e := velocity.Stacked(g, x, ints(0)); return x, e },
			func() (any, api.Errno) { x, e := velocity.Rivals(p, y, 8); return x, e },
			func() (any, api.Errno) { x, e := velocity.Picks(x, ints(0, 1), 1); return x, e },
			func() (any, api.Errno) { x, e := velocity.Moments(l, b); return x, e },
		} {
			x, e1 := f()
			y, e2 := f()
			same(t, "a result again", y, x)
			same(t, "an error again", e2, e1)
		}
	}
}
