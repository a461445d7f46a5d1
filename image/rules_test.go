package image_test

import (
	"math"
	"reflect"
	"slices"
	"strings"
	"testing"

	"moveout/api"
	"moveout/image"
)

// extremes are integers of any size.
var extremes = []int{math.MinInt, -1, 0, 1, 3, 4, 16, 17, 256, 257, math.MaxInt}

func oddGrounds() []image.Ground {
	l := []image.Ground{groundG(), ground(1, 1, 1), even(16, 16, 100), ground(3, 2, 1, 2, 3, 4, 5, 6), ground(16, 16, make([]int, 100000)...)}
	for _, x := range badGrounds() {
		l = append(l, x.g)
	}
	for _, n := range extremes {
		l = append(l, ground(n, n), ground(n, 2, 1, 1, 1, 1), ground(2, n, 1, 1, 1, 1), ground(2, 2, 1, n, n, 1))
	}
	return l
}

func oddSurveys() []image.Survey {
	l := []image.Survey{surveyS(3), surveyT(), {Unit: 1, Length: 1}, {Unit: 1, Length: 1, Most: 256, Pairs: make([]image.Pair, 16)}, {Unit: 1, Length: 1, Pairs: make([]image.Pair, 100000)}}
	for _, x := range badSurveys() {
		l = append(l, x.s)
	}
	for _, n := range extremes {
		l = append(l, image.Survey{Unit: n, Length: n, Most: n, Pairs: []image.Pair{pair(n, n), hole(n, n)}}, image.Survey{Unit: 5, Length: 6, Most: 3, Pairs: []image.Pair{pair(n, 0), hole(0, n)}})
	}
	return l
}

func oddLists() [][]int {
	l := [][]int{nil, {}, extremes, make([]int, 1), make([]int, 4), make([]int, 256), make([]int, 4096), make([]int, 4097), {0, 6, 8, 15}, {0, 1, 0, 3}}
	for _, n := range extremes {
		l = append(l, ints(n), ints(0, n, 0, n))
	}
	return l
}

func oddTraces() [][][]int {
	l := [][][]int{nil, {}, dataS(), dataT(), {nil}, make([][]int, 3), make([][]int, 100000), slices.Repeat([][]int{{7}}, 16), {extremes}}
	for _, x := range badTracesList() {
		l = append(l, x.data)
	}
	return l
}

func oddSpans() []api.Span {
	l := slices.Clone(badSpans)
	for _, n := range extremes {
		l = append(l, api.Span{From: n, To: n}, api.Span{To: n})
	}
	return l
}

func oddPanels() [][4]complex64 {
	x := complex(minus0, minus0)
	l := [][4]complex64{{}, {1, 1, 1, 1}, {4096 + 4096i, -4096i, -4096, 4096}, {x, x, x, x}}
	for _, x := range badPanels() {
		l = append(l, x.p)
	}
	return l
}

func oddLayers() [][]image.Layer {
	l := [][]image.Layer{nil, {}, {{Thick: 2, Slow: 3}}, slices.Repeat([]image.Layer{{Thick: 1000, Slow: 100}}, 16), make([]image.Layer, 100000)}
	for _, x := range badLayersList() {
		l = append(l, x.layers)
	}
	for _, n := range extremes {
		l = append(l, []image.Layer{{Thick: n, Slow: n}}, []image.Layer{{Thick: 1, Slow: 1}, {Thick: n, Slow: 1}})
	}
	return l
}

func oddTexts() []string {
	return []string{"", "\n", " ", "\x00", "\xff\xfe\n", "ground", "ground \n", "ground 1 1\n", "ground 1 1\nrow 1\n", "ground 0 0\n", "ground 999999999 999999999\n", "ground 999999999 1\nrow" + strings.Repeat(" 1", 2000) + "\n", "ground 0 999999999\n" + strings.Repeat("row\n", 1000), strings.Repeat("\n", 4096), strings.Repeat(" ", 4096), strings.Repeat("ground 1 1\n", 372), strings.Repeat("9", 4096), strings.Repeat("x", 1000000)}
}

// The limits are those of the chapter.
func TestLimits(t *testing.T) {
	got := []int{image.MaxSide, image.MaxSlow, image.MaxUnit, image.MaxLength, image.MaxPairs, image.MaxModel, image.MaxData, image.MaxInner, image.MaxFlat, image.MaxLayers, image.MaxThick}
	same(t, "the limits", got, []int{16, 100, 1000, 256, 16, 1000, 1048576, 16777216, 4096, 16, 1000})
}

// P1: no function panics, and together with an error every other result is its zero value.
func TestOddArguments(t *testing.T) {
	bools := []bool{false, true}
	combine(t, image.CheckGround, oddGrounds())
	combine(t, image.Cost, oddGrounds(), extremes, extremes)
	combine(t, image.Times, oddGrounds(), extremes)
	combine(t, image.Path, oddGrounds(), extremes, extremes)
	combine(t, image.CheckPath, oddGrounds(), oddLists())
	combine(t, image.CheckPotentials, oddGrounds(), extremes, extremes, oddLists())
	combine(t, image.CheckTimes, oddGrounds(), extremes, oddLists())
	combine(t, image.Mirrored, oddGrounds(), bools)
	combine(t, image.Transposed, oddGrounds())
	combine(t, image.CheckSurvey, oddGrounds(), oddSurveys())
	combine(t, image.Delays, oddGrounds(), oddSurveys(), extremes)
	combine(t, image.Model, oddGrounds(), oddSurveys(), oddLists())
	combine(t, image.Image, oddGrounds(), oddSurveys(), oddTraces())
	combine(t, image.Tile, oddGrounds()[:5], oddSurveys(), oddTraces(), oddSpans())
	combine(t, image.Flat, oddGrounds(), oddSurveys(), oddTraces())
	combine(t, image.Inner, oddLists(), oddLists())
	combine(t, image.Misfit, oddGrounds()[:5], oddSurveys(), oddLists(), oddTraces())
	combine(t, image.Bound, oddGrounds()[:5], oddSurveys(), oddTraces(), oddTraces())
	combine(t, image.Amplitude, oddGrounds()[:5], oddSurveys(), oddTraces(), extremes)
	combine(t, image.Delay, oddPanels(), extremes)
	combine(t, image.Through, oddPanels(), oddLayers(), bools)
	combine(t, image.Print, oddGrounds())
	combine(t, image.Parse, oddTexts())
}

// combine calls a function with all combinations of the elements of some lists.
func combine(t *testing.T, f any, lists ...any) {
	t.Helper()
	calls := [][]reflect.Value{nil}
	for _, list := range lists {
		l := reflect.ValueOf(list)
		var longer [][]reflect.Value
		for _, args := range calls {
			for j := range l.Len() {
				longer = append(longer, append(slices.Clone(args), l.Index(j)))
			}
		}
		calls = longer
	}
	_, isParse := f.(func(string) (image.Ground, int, api.Errno))
	for _, args := range calls {
		out := reflect.ValueOf(f).Call(args)
		e := out[len(out)-1].Interface().(api.Errno)
		for i, x := range out[:len(out)-1] {
			// Parse gives an index beside its errors.
			if isParse && i == 1 {
				continue
			}
			if e != api.OK && !reflect.ValueOf(plain(x.Interface())).IsZero() {
				t.Errorf("a result beside the error %v is %v", e, x)
			}
		}
	}
}

// mess changes all integers of a list, also those behind its end.
func mess(l []int) {
	l = l[:cap(l)]
	for i := range l {
		l[i] = -99
	}
}

// The rule 'Memory' for grounds, ways and potentials.
func TestMemoryOfGrounds(t *testing.T) {
	g, way, potentials := groundG(), ints(0, 1, 0, 3), ints(0, 6, 8, 15)
	for range 2 {
		l, e := image.Times(g, 1)
		ok(t, "Times", e)
		same(t, "Times", l, ints(6, 0, 14, 12))
		mess(l)
		l, _, e = image.Path(g, 1, 2)
		ok(t, "Path", e)
		same(t, "Path", l, ints(1, 0, 2))
		mess(l)
		_, e = image.CheckPath(g, way)
		ok(t, "CheckPath", e)
		_, e = image.CheckPotentials(g, 0, 3, potentials)
		ok(t, "CheckPotentials", e)
		ok(t, "CheckTimes", image.CheckTimes(g, 0, potentials))
		for _, f := range []func() (image.Ground, api.Errno){
			func() (image.Ground, api.Errno) { return image.Mirrored(g, false) },
			func() (image.Ground, api.Errno) { return image.Mirrored(g, true) },
			func() (image.Ground, api.Errno) { return image.Transposed(g) },
		} {
			m, e := f()
			ok(t, "a changed ground", e)
			mess(m.Slow)
		}
		s, e := image.Print(g)
		ok(t, "Print", e)
		m, _, e := image.Parse(s)
		ok(t, "Parse", e)
		same(t, "Parse", m, groundG())
		mess(m.Slow)
	}
	same(t, "the arguments", []any{g, way, potentials}, []any{groundG(), ints(0, 1, 0, 3), ints(0, 6, 8, 15)})
	m, e := image.Mirrored(g, false)
	ok(t, "Mirrored", e)
	mess(g.Slow)
	same(t, "Mirrored when the argument is changed", m, ground(2, 2, 2, 1, 4, 3))
}

// The rule 'Memory' for surveys, models and traces.
func TestMemoryOfOperators(t *testing.T) {
	g, s, model, data := groundG(), surveyT(), ints(1, 10, 100, 1000), dataT()
	s.Pairs = append(s.Pairs, s.Pairs[2])
	data = append(data, make([]int, 6))
	dual := [][]int{{1, 0, 0, 0, 0, 0}, nil, make([]int, 6), make([]int, 6)}
	for range 2 {
		l, e := image.Delays(g, s, 0)
		ok(t, "Delays", e)
		same(t, "Delays", l, ints(1, 1, 4, 5))
		mess(l)
		traces, e := image.Model(g, s, model)
		ok(t, "Model", e)
		same(t, "Model", traces, [][]int{{0, 11, 0, 0, 100, 1000}, nil, {0, 0, 0, 1011, 100, 0}, {0, 0, 0, 1011, 100, 0}})
		mess(traces[0])
		same(t, "another trace", traces[2:], [][]int{{0, 0, 0, 1011, 100, 0}, {0, 0, 0, 1011, 100, 0}})
		mess(traces[2])
		same(t, "the trace of the same pair", traces[3:], [][]int{{0, 0, 0, 1011, 100, 0}})
		l, e = image.Image(g, s, data)
		ok(t, "Image", e)
		same(t, "Image", l, ints(72, 72, 705, 76))
		mess(l)
		l, e = image.Tile(g, s, data, api.Span{From: 1, To: 2})
		ok(t, "Tile", e)
		same(t, "Tile", l, ints(705, 76))
		mess(l)
		l, e = image.Flat(g, s, data)
		ok(t, "Flat", e)
		same(t, "Flat", l, flatOf(data))
		mess(l)
		_, e = image.Misfit(g, s, model, data)
		ok(t, "Misfit", e)
		_, e = image.Bound(g, s, data, dual)
		ok(t, "Bound", e)
		_, e = image.Amplitude(g, s, data, 3)
		ok(t, "Amplitude", e)
		_, e = image.Inner(data[0], dual[0])
		ok(t, "Inner", e)
	}
	same(t, "the ground, the model and the traces", []any{g, model, data, dual}, []any{groundG(), ints(1, 10, 100, 1000), append(dataT(), make([]int, 6)), [][]int{{1, 0, 0, 0, 0, 0}, nil, make([]int, 6), make([]int, 6)}})
	same(t, "the pairs", s.Pairs, append(surveyT().Pairs, pair(3, 0)))
}

// The rule 'Memory' for the traces of one pair alone.
func TestMemoryOfOneTrace(t *testing.T) {
	data := dataS()
	l, e := image.Flat(groundG(), surveyS(3), data)
	ok(t, "Flat", e)
	mess(l)
	same(t, "the traces", data, dataS())
}

// The rule 'Numbers': -0 in a panel is 0, and no result is -0.
func TestMinusZero(t *testing.T) {
	r := random(21)
	zero := complex(minus0, minus0)
	for _, p := range [][4]complex64{{zero, zero, zero, zero}, {1, zero, complex(minus0, 1), complex(-1, minus0)}, r.panel(1)} {
		for by := -4; by <= 4; by++ {
			got, e := image.Delay(p, by)
			ok(t, "Delay", e)
			same(t, "Delay: a -0", slices.ContainsFunc(got[:], hasMinus0), false)
			same(t, "Delay of -0", got == delayOf(p, by), true)
		}
		for _, layers := range [][]image.Layer{nil, {{Thick: 3, Slow: 5}}} {
			got, e := image.Through(p, layers, true)
			ok(t, "Through", e)
			same(t, "Through: a -0", slices.ContainsFunc(got[:], hasMinus0), false)
		}
	}
}

// hasMinus0 reports whether a part of a number is -0.
func hasMinus0(x complex64) bool {
	isMinus0 := func(x float32) bool { return x == 0 && math.Signbit(float64(x)) }
	return isMinus0(real(x)) || isMinus0(imag(x))
}

// The rule 'Determinism': the same call has the same result again.
func TestSameAgain(t *testing.T) {
	r := random(22)
	for range 50 {
		g := r.ground(6, 3)
		s := r.survey(g, 4)
		model, data, a, b := r.integers(len(g.Slow), 1000), r.traces(s, 1000), r.cell(g), r.cell(g)
		for _, f := range []func() (any, api.Errno){
			func() (any, api.Errno) { x, e := image.Times(g, a); return x, e },
			func() (any, api.Errno) { x, n, e := image.Path(g, a, b); return []any{x, n}, e },
			func() (any, api.Errno) { x, e := image.Model(g, s, model); return x, e },
			func() (any, api.Errno) { x, e := image.Image(g, s, data); return x, e },
			func() (any, api.Errno) { x, e := image.Misfit(g, s, model, data); return x, e },
			func() (any, api.Errno) { x, e := image.Amplitude(g, s, data, a); return x, e },
		} {
			x, e1 := f()
			y, e2 := f()
			same(t, "a result again", y, x)
			same(t, "an error again", e2, e1)
		}
	}
}
