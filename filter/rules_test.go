package filter_test

import (
	"math"
	"reflect"
	"slices"
	"strings"
	"testing"

	"moveout/api"
	"moveout/filter"
	"moveout/trace"
)

// extremes are integers of any size.
var extremes = []int{math.MinInt, -16385, -17, -1, 0, 1, 2, 16, 17, 64, 65, 1024, 1025, 16384, 100001, math.MaxInt}

func oddTaps() [][]int {
	l := [][]int{{1}, {-1, 16}, {16, 16, 16, 16, 16, 16, 16, 16}, {1, -16, 16, -16, 16, -16, 16, -16}, extremes, make([]int, 100000)}
	for _, x := range badTapLists() {
		l = append(l, x.taps)
	}
	for _, n := range extremes {
		l = append(l, []int{n}, []int{1, n}, []int{n, n, n})
	}
	return l
}

func oddLists() [][]float32 {
	l := [][]float32{nil, {}, {0}, {minus0}, {1, 2, 3}, full(3, 127), full(32, -127), full(1024, 16384), full(1024, -16384), make([]float32, 1024), slices.Repeat([]float32{1024, -1024}, 512), make([]float32, 100000)}
	for _, x := range badFits() {
		l = append(l, x.l)
	}
	return l
}

func oddTables() [][]filter.Tide {
	l := [][]filter.Tide{risingTides(16), {tide(0, -64), tide(1, 64)}, {tide(99999, 64), tide(100000, -64)}, make([]filter.Tide, 100000)}
	for _, x := range badTables() {
		l = append(l, x.l)
	}
	for _, n := range extremes {
		l = append(l, []filter.Tide{tide(n, n)}, []filter.Tide{tide(0, 0), tide(n, 1), tide(n, n)})
	}
	return l
}

func oddShots() []trace.Shot {
	l := []trace.Shot{{}, shot([]float32{1, 2}, []float32{3, 4}), shot(nil, nil), shot(full(1024, 16384), full(1024, -16384)), {Name: "a", Traces: make([]trace.Trace, 100000)}, {Name: "a", Traces: []trace.Trace{{Hole: true}}}}
	for _, x := range badShots() {
		l = append(l, x.s)
	}
	for _, n := range extremes {
		s := shot([]float32{1}, []float32{2})
		for i := range s.Traces {
			s.Traces[i].Header[4] = n
		}
		l = append(l, s)
	}
	return l
}

func oddPredictions() []filter.Prediction {
	var l []filter.Prediction
	numbers := append(slices.Clone(extremes), filter.MaxNum, -filter.MaxNum, filter.MaxDen, filter.MaxNum+1)
	for _, n := range numbers {
		for _, m := range numbers {
			l = append(l, filter.Prediction{A: n, B: m, Den: 1}, filter.Prediction{A: n, B: n, Den: m}, filter.Prediction{A: 1, B: n, Den: m})
		}
	}
	return l
}

func oddParts() []float32 {
	return []float32{0, minus0, 1, -1, 0.0625, 0.03125, 1024, -1024.0625, 16384, 16384.0625, math.MaxFloat32, -math.MaxFloat32, math.SmallestNonzeroFloat32, nan, endless, -endless}
}

func oddSquares() [][4][4]float32 {
	var l [][4][4]float32
	for _, x := range oddParts() {
		l = append(l, all(x), [4][4]float32{{x}}, [4][4]float32{1: {1, 1, x, 1}}, [4][4]float32{3: {3: x}})
	}
	return l
}

func oddPanels() [][4][4]complex64 {
	var l [][4][4]complex64
	for _, x := range badPanels() {
		l = append(l, x.p)
	}
	for _, x := range oddParts() {
		for _, y := range oddParts() {
			z := complex(x, y)
			l = append(l, all(z), [4][4]complex64{{z}}, [4][4]complex64{1: {1, 1, z, 1}}, [4][4]complex64{3: {3: z}})
		}
	}
	return l
}

func oddTexts() []string {
	return []string{"", "\n", " ", "\x00", "\xff\xfe", "1", "0", "-0", "1 -2", strings.Repeat("\n", 4096), strings.Repeat(" ", 4096), strings.Repeat("1 ", 2048), strings.Repeat("9", 4096), strings.Repeat("-", 4096), strings.Repeat("999999999 ", 400), strings.Repeat("x", 1000000)}
}

// The limits are those of the chapter.
func TestLimits(t *testing.T) {
	got := []int{filter.MaxTaps, filter.MaxTap, filter.MaxDelay, filter.MaxLimit, filter.MaxFit, filter.MaxFitted, filter.MaxDen, filter.MaxNum, filter.MaxWeight, filter.MaxTides, filter.MaxHeight, filter.Strength}
	same(t, "the limits", got, []int{8, 16, 64, 16384, 32, 127, 274877906944, 549755813888, 1024, 16, 64, 1024})
}

// P1: no function panics, and together with an error every other result is its zero value.
func TestOddArguments(t *testing.T) {
	combine(t, filter.CheckTaps, oddTaps())
	combine(t, filter.Apply, oddTaps(), oddLists())
	combine(t, filter.Undo, oddTaps(), oddLists())
	combine(t, filter.Adjoint, oddTaps(), oddLists())
	combine(t, filter.Inner, oddLists(), oddLists())
	combine(t, filter.Response, oddTaps())
	combine(t, filter.Ghost, oddLists(), extremes)
	combine(t, filter.Deghost, oddLists(), extremes)
	combine(t, filter.Notches, extremes)
	combine(t, filter.Multiple, oddLists(), extremes)
	combine(t, filter.Subtract, oddLists(), oddLists())
	combine(t, filter.Removed, oddLists(), oddLists())
	combine(t, filter.Despike, oddLists(), extremes)
	combine(t, filter.Predict, oddLists())
	combine(t, filter.CheckPrediction, oddLists(), oddPredictions())
	combine(t, filter.Error, oddLists())
	combine(t, filter.Gain, oddLists(), extremes, extremes)
	combine(t, filter.CheckTides, oddTables())
	combine(t, filter.Level, oddTables(), extremes)
	combine(t, filter.Corrected, oddShots(), oddTables())
	combine(t, filter.Each, oddShots(), oddTaps())
	combine(t, filter.Panel, oddSquares())
	combine(t, filter.Unpanel, oddPanels())
	combine(t, filter.Keep, oddPanels(), []uint16{0, 1, 0x8000, 0x5555, 0xffff})
	combine(t, filter.Print, oddTaps())
	combine(t, filter.Parse, oddTexts())
}

// combine calls a function with all combinations of the elements of some lists.
func combine(t *testing.T, f any, lists ...any) {
	t.Helper()
	calls := [][]reflect.Value{nil}
	for _, list := range lists {
		l := reflect.ValueOf(list)
		var longer [][]reflect.Value
		for _, args := range calls {
			for j := range l.Len() {
				longer = append(longer, append(slices.Clone(args), l.Index(j)))
			}
		}
		calls = longer
	}
	for _, args := range calls {
		out := reflect.ValueOf(f).Call(args)
		e := out[len(out)-1].Interface().(api.Errno)
		for _, x := range out[:len(out)-1] {
			if e != api.OK && !reflect.ValueOf(plain(x.Interface())).IsZero() {
				t.Errorf("a result beside the error %v is %v", e, x)
			}
		}
	}
}

// listFunctions are the functions that make a list of a list.
func listFunctions() map[string]func(l []float32) ([]float32, api.Errno) {
	return map[string]func(l []float32) ([]float32, api.Errno){
		"Apply":    func(l []float32) ([]float32, api.Errno) { return filter.Apply([]int{1, 0, 1}, l) },
		"Apply 1":  func(l []float32) ([]float32, api.Errno) { return filter.Apply([]int{1}, l) },
		"Undo":     func(l []float32) ([]float32, api.Errno) { return filter.Undo([]int{-1, 0}, l) },
		"Undo 1":   func(l []float32) ([]float32, api.Errno) { return filter.Undo([]int{1}, l) },
		"Adjoint":  func(l []float32) ([]float32, api.Errno) { return filter.Adjoint([]int{-1, 0, 1}, l) },
		"Ghost":    func(l []float32) ([]float32, api.Errno) { return filter.Ghost(l, 64) },
		"Deghost":  func(l []float32) ([]float32, api.Errno) { return filter.Deghost(l, 64) },
		"Multiple": func(l []float32) ([]float32, api.Errno) { return filter.Multiple(l, 1) },
		"Subtract": func(l []float32) ([]float32, api.Errno) {
			m := make([]float32, len(l))
			m[0] = 1
			x, _, e := filter.Subtract(l, m)
			return x, e
		},
		"Subtract from": func(l []float32) ([]float32, api.Errno) {
			x, _, e := filter.Subtract(full(len(l), 16), l)
			return x, e
		},
		"Despike": func(l []float32) ([]float32, api.Errno) { return filter.Despike(l, 16384) },
		"Gain":    func(l []float32) ([]float32, api.Errno) { return filter.Gain(l, 1, 1) },
	}
}

// The rule 'Memory': lists are not changed, and what is made of them shares no memory with them.
func TestMemoryOfLists(t *testing.T) {
	for what, f := range listFunctions() {
		room := []float32{1, -2, 3, 0.5, 9, 9, 9, 9}
		l := room[:4]
		got, e := f(l)
		ok(t, what, e)
		want := slices.Clone(got)
		same(t, what+": its argument", room, []float32{1, -2, 3, 0.5, 9, 9, 9, 9})
		whole := got[:cap(got)]
		for i := range whole {
			whole[i] = -99
		}
		same(t, what+": its argument when the result is changed", room, []float32{1, -2, 3, 0.5, 9, 9, 9, 9})
		again, e := f(l)
		ok(t, what, e)
		same(t, what+" again", again, want)
		clear(room)
		same(t, what+" when the argument is changed", again, want)
	}
}

// The rule 'Memory' for taps, shots and tables.
func TestMemoryOfShots(t *testing.T) {
	taps, tides := []int{1, -1}, []filter.Tide{tide(10, 0), tide(20, 1)}
	for what, f := range map[string]func(s trace.Shot) (trace.Shot, api.Errno){
		"Corrected": func(s trace.Shot) (trace.Shot, api.Errno) { return filter.Corrected(s, tides) },
		"Corrected by 0": func(s trace.Shot) (trace.Shot, api.Errno) {
			return filter.Corrected(s, []filter.Tide{tide(0, 0)})
		},
		"Each":      func(s trace.Shot) (trace.Shot, api.Errno) { return filter.Each(s, taps) },
		"Each by 1": func(s trace.Shot) (trace.Shot, api.Errno) { return filter.Each(s, []int{1}) },
	} {
		room := []float32{9, 9, 9}
		s := shot([]float32{1, 2, 3}, []float32{4, 5, 6})
		s.Traces[1].Samples = room[:0]
		kept := clone(s)
		got, e := f(s)
		ok(t, what, e)
		want := clone(got)
		for i := range got.Traces {
			l := got.Traces[i].Samples
			l = l[:cap(l)]
			for j := range l {
				l[j] = -99
			}
			if i == 0 {
				same(t, what+": another trace", got.Traces[2].Samples, want.Traces[2].Samples)
			}
			got.Traces[i].Header[0] = -99
		}
		same(t, what+": its argument", s, kept)
		same(t, what+": the place behind a hole", room, []float32{9, 9, 9})
		again, e := f(s)
		ok(t, what, e)
		same(t, what+" again", again, want)
		for i := range s.Traces {
			clear(s.Traces[i].Samples)
			s.Traces[i].Header[0] = 7
		}
		same(t, what+" when the argument is changed", again, want)
	}
	same(t, "the taps", taps, []int{1, -1})
	same(t, "the tides", tides, []filter.Tide{tide(10, 0), tide(20, 1)})
}

// The rule 'Memory' for taps, and for results that are no samples.
func TestMemoryOfOthers(t *testing.T) {
	taps := []int{1, -2, 3}
	for _, c := range changes {
		_, e := c.f(taps, []float32{1, 2, 3})
		ok(t, c.what, e)
	}
	_, e := filter.Response(taps)
	ok(t, "Response", e)
	_, e = filter.Print(taps)
	ok(t, "Print", e)
	same(t, "the taps", taps, []int{1, -2, 3})
	for range 2 {
		n, e := filter.Notches(2)
		ok(t, "Notches", e)
		same(t, "Notches", n, []int{0, 2})
		clear(n[:cap(n)])
		p, e := filter.Parse("1 -2")
		ok(t, "Parse", e)
		same(t, "Parse", p, []int{1, -2})
		clear(p[:cap(p)])
	}
	fib := samples(1, 1, 2, 3, 5, 9)
	_, e = filter.Predict(fib)
	ok(t, "Predict", e)
	_, e = filter.Error(fib)
	ok(t, "Error", e)
	same(t, "CheckPrediction", filter.CheckPrediction(fib, filter.Prediction{A: 4, B: 2, Den: 3}), api.OK)
	_, e = filter.Removed(fib, fib)
	ok(t, "Removed", e)
	_, e = filter.Inner(fib, fib)
	ok(t, "Inner", e)
	same(t, "the list", fib, samples(1, 1, 2, 3, 5, 9))
}

// isMinus0 reports whether a number is -0.
func isMinus0(x float32) bool {
	return x == 0 && math.Signbit(float64(x))
}

// The rule 'Numbers': -0 in an argument is 0, and no result is -0.
func TestMinusZero(t *testing.T) {
	for what, f := range listFunctions() {
		for _, sign := range []float32{1, -1} {
			plus, e := f([]float32{sign, 0, 0, 0, sign, 0})
			ok(t, what, e)
			minus, e := f([]float32{sign, minus0, minus0, minus0, sign, minus0})
			ok(t, what, e)
			same(t, what+" of -0", minus, plus)
			same(t, what+": a -0", slices.ContainsFunc(minus, isMinus0), false)
		}
	}
	p, e := filter.Panel(all(minus0))
	ok(t, "Panel", e)
	kept, e := filter.Keep(all(complex(minus0, minus0)), 0x0ff0)
	ok(t, "Keep", e)
	l, e := filter.Unpanel(all(complex(minus0, minus0)))
	ok(t, "Unpanel", e)
	for i := range 4 {
		for j := range 4 {
			for _, x := range []float32{real(p[i][j]), imag(p[i][j]), real(kept[i][j]), imag(kept[i][j]), l[i][j]} {
				same(t, "a -0 of a panel", isMinus0(x), false)
			}
		}
	}
	n, e := filter.Inner([]float32{minus0}, []float32{1})
	ok(t, "Inner", e)
	same(t, "Inner of -0", n, 0)
	x, e := filter.Predict([]float32{minus0, 0.0625, minus0, minus0})
	ok(t, "Predict", e)
	same(t, "Predict of -0", x, filter.Prediction{Den: 1})
	s, e := filter.Corrected(shot([]float32{minus0, 1}, []float32{minus0, 1}), []filter.Tide{tide(0, 0)})
	ok(t, "Corrected", e)
	same(t, "Corrected: a -0", isMinus0(s.Traces[0].Samples[0]), false)
}

// The rule 'Determinism': the same call has the same result again.
func TestSameAgain(t *testing.T) {
	r := random(32)
	for range 30 {
		l, s, tides := samples(r.numbers(9, 99)...), r.shot(9, 99), r.tides(5, 20)
		for _, f := range []func() (any, api.Errno){
			func() (any, api.Errno) { x, e := filter.Predict(l); return x, e },
			func() (any, api.Errno) { x, e := filter.Error(l); return x, e },
			func() (any, api.Errno) { x, e := filter.Corrected(s, tides); return x, e },
			func() (any, api.Errno) { x, e := filter.Multiple(l, 2); return x, e },
		} {
			x, e1 := f()
			y, e2 := f()
			same(t, "a result again", y, x)
			same(t, "an error again", e2, e1)
		}
	}
}
