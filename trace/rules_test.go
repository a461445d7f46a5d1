package trace_test

import (
	"math"
	"reflect"
	"slices"
	"strings"
	"testing"

	"moveout/api"
	"moveout/trace"
)

// oddShots returns shots of any form.
func oddShots() []trace.Shot {
	l := []trace.Shot{{}, s1(), hollow(1), hollow(64), one(), one(ones(1024)...), {Name: "a", Traces: make([]trace.Trace, 100000)}, {Name: "a", Traces: hollow(100000).Traces}, one(nan, endless, minus0), one(make([]float32, 100000)...)}
	for _, x := range badShots() {
		l = append(l, x.s)
	}
	for _, n := range []int{math.MinInt, math.MaxInt} {
		s := s1()
		for i := range s.Traces {
			for j := range s.Traces[i].Header {
				s.Traces[i].Header[j] = n
			}
		}
		l = append(l, s)
	}
	return l
}

func oddLists() [][]float32 {
	l := [][]float32{nil, {}, {0}, {minus0}, {1, 2, 3}, ones(1024), make([]float32, 100000)}
	for _, x := range badLists() {
		l = append(l, x.l)
	}
	return l
}

func oddStrings() []string {
	return []string{"", "\n", " ", "\x00", "\xff\xfe", "shot", "shot s1\ntrace", s1Text, s1Text + s1Text, strings.Repeat("\n", 1000000), strings.Repeat(" ", 1000000), "shot " + strings.Repeat("x ", 400000), "shot s\n" + strings.Repeat("trace 0 0 0 0 0 0 0 0\n", 40000), strings.Repeat("SHOT", 100000), "SHOT", "SHOT\x00\x00\x00\x00", "SHOT\x00\xff\x00\x00" + strings.Repeat("\x00", 255*37), "SHOT\x01a\x01\xff\xff" + strings.Repeat("\x00", 37+4*65535)}
}

// P1: no function panics, and together with an error every other result is its zero value.
func TestOddArguments(t *testing.T) {
	numbers := []int{math.MinInt, -2147483649, -1025, -1, 0, 1, 2, 255, 256, 257, 1024, 1025, 2147483646, 2147483647, math.MaxInt}
	parts := []float32{0, minus0, 1, 0.03125, 1024, 5000, math.MaxFloat32, nan, endless}
	combine(t, trace.IsName, oddStrings())
	combine(t, trace.Draw, numbers, numbers)
	for _, n := range numbers {
		combine(t, trace.CheckRatio, []api.Ratio{{Num: n, Den: n}, {Num: n, Den: 1}, {Num: 1, Den: n}})
		combine(t, trace.Cut, oddShots(), []api.Span{{From: n, To: n}, {From: n, To: 1}, {From: 0, To: n}})
	}
	combine(t, trace.CheckSample, parts)
	for _, s := range oddShots() {
		combine(t, trace.CheckTrace, s.Traces[:min(len(s.Traces), 3)])
		combine(t, trace.Offset, s.Traces[:min(len(s.Traces), 3)])
	}
	combine(t, trace.CheckShot, oddShots())
	combine(t, trace.Width, oddShots())
	combine(t, trace.Holes, oddShots())
	combine(t, trace.Join, oddShots(), oddShots())
	combine(t, trace.Sum, oddShots(), oddShots())
	combine(t, trace.Scaled, oddShots(), numbers, []int{math.MinInt, 0, 1, 1024, math.MaxInt})
	combine(t, trace.Delayed, oddShots(), numbers)
	combine(t, trace.Stack, oddShots())
	combine(t, trace.Convolve, oddLists(), [][]int{nil, {}, {1}, {64, -64}, numbers, make([]int, 16), make([]int, 100000)})
	combine(t, trace.Correlate, oddLists(), oddLists())
	combine(t, trace.Energy, oddLists())
	combine(t, trace.Peak, oddLists())
	for _, x := range parts {
		combine(t, trace.Transform, [][4]float32{{x, x, x, x}, {1, 2, 3, x}})
		for _, y := range parts {
			combine(t, trace.Back, [][4]complex64{{complex(x, y)}, {1, 2, 3, complex(x, y)}, {complex(x, y), complex(y, x), complex(x, y), complex(y, x)}})
		}
	}
	combine(t, trace.Print, oddShots())
	combine(t, trace.Parse, oddStrings())
	combine(t, trace.Encode, oddShots())
	combine(t, trace.Decode, asBytes(oddStrings()))
	combine(t, trace.Salvage, asBytes(oddStrings()))
}

func asBytes(l []string) [][]byte {
	var out [][]byte
	for _, s := range l {
		out = append(out, []byte(s))
	}
	return out
}

// combine calls a function with all combinations of the elements of some lists.
func combine(t *testing.T, f any, lists ...any) {
	t.Helper()
	v := reflect.ValueOf(f)
	args := make([]reflect.Value, len(lists))
	var choose func(i int)
	choose = func(i int) {
		if i == len(lists) {
			zeroBeside(t, v.Call(args))
			return
		}
		l := reflect.ValueOf(lists[i])
		for j := range l.Len() {
			args[i] = l.Index(j)
			choose(i + 1)
		}
	}
	choose(0)
}

// zeroBeside checks that all results beside an error are zero, but for the index of Parse.
func zeroBeside(t *testing.T, out []reflect.Value) {
	t.Helper()
	last := len(out) - 1
	if e, is := out[last].Interface().(api.Errno); !is || e == api.OK {
		return
	}
	for i, x := range out[:last] {
		index := i == 1 && x.Kind() == reflect.Int
		empty := x.Kind() == reflect.Slice && x.Len() == 0
		if !index && !empty && !x.IsZero() {
			t.Errorf("a result beside the error %v is %v", out[last], x)
		}
	}
}

// shotFunctions are the functions that make a shot of one shot (the first one) or of two.
func shotFunctions() []func(a, b trace.Shot) (trace.Shot, api.Errno) {
	return []func(a, b trace.Shot) (trace.Shot, api.Errno){
		func(a, _ trace.Shot) (trace.Shot, api.Errno) { return trace.Cut(a, api.Span{From: 0, To: 2}) },
		func(a, b trace.Shot) (trace.Shot, api.Errno) { return trace.Join(a, later(b, 3)) },
		trace.Sum,
		func(a, _ trace.Shot) (trace.Shot, api.Errno) { return trace.Scaled(a, 1, 1) },
		func(a, _ trace.Shot) (trace.Shot, api.Errno) { return trace.Delayed(a, 0) },
	}
}

// The rule 'Memory': shots are not changed, and what is made of them shares no memory with them or within itself.
func TestMemoryOfShots(t *testing.T) {
	for i, f := range shotFunctions() {
		a, b := s1(), s1()
		room := []float32{9, 9, 9}
		a.Traces[1].Samples = room[:0]
		s, e := f(a, b)
		ok(t, "a shot", e)
		want := clone(s)
		for j := range s.Traces {
			l := s.Traces[j].Samples
			l = l[:cap(l)]
			for k := range l {
				l[k] = 99
			}
		}
		same(t, "the first argument", []any{i, plain(a)}, []any{i, plain(s1())})
		same(t, "the second argument", []any{i, plain(b)}, []any{i, plain(s1())})
		same(t, "the place behind a hole", room, []float32{9, 9, 9})
		s.Traces[0].Header[0] = 77
		same(t, "the headers of the argument", a.Traces[0].Header, s1().Traces[0].Header)
		again, _ := f(a, b)
		same(t, "the result again", again, want)
		apart(t, again)
	}
}

// apart checks that the traces of a shot share no memory.
func apart(t *testing.T, s trace.Shot) {
	t.Helper()
	want := clone(s)
	for i := range s.Traces {
		l := s.Traces[i].Samples
		kept := slices.Clone(l)
		all := l[:cap(l)]
		for k := range all {
			all[k] = -99
		}
		for j := range s.Traces {
			if j != i {
				same(t, "another trace", []any{j, slices.Equal(s.Traces[j].Samples, want.Traces[j].Samples)}, []any{j, true})
			}
		}
		copy(l, kept)
	}
}

// The rule 'Memory' for streams, texts and lists.
func TestMemoryOfOthers(t *testing.T) {
	code := s1Bytes(t)
	kept := slices.Clone(code)
	s, e := trace.Decode(code)
	ok(t, "Decode", e)
	apart(t, s)
	same(t, "the stream", code, kept)
	code[100] ^= 1
	u, _, e := trace.Salvage(code)
	ok(t, "Salvage", e)
	want := clone(u)
	clear(code)
	same(t, "the shot when its stream is changed", u, want)
	apart(t, u)
	p, _, e := trace.Parse(s1Text)
	ok(t, "Parse", e)
	apart(t, p)
	list, taps := []float32{1, 2, 3}, []int{1}
	l, e := trace.Convolve(list, taps)
	ok(t, "Convolve", e)
	l[0] = 99
	same(t, "the list", list, []float32{1, 2, 3})
	same(t, "the taps", taps, []int{1})
	a := s1()
	x, e := trace.Encode(a)
	ok(t, "Encode", e)
	clear(x)
	same(t, "the shot", a, s1())
	y, e := trace.Encode(a)
	ok(t, "Encode", e)
	same(t, "the stream again", y, s1Bytes(t))
}

// The rule 'Numbers': -0 in an argument is 0, and no result is -0.
func TestMinusZero(t *testing.T) {
	a := one(minus0, 1, minus0)
	for i, f := range shotFunctions() {
		s, e := f(a, one(minus0, -1, minus0))
		ok(t, "a shot with -0", e)
		for _, x := range s.Traces[0].Samples {
			if x == 0 && math.Signbit(float64(x)) {
				t.Errorf("the function %d returns -0", i)
			}
		}
	}
	s, e := trace.Scaled(a, -1, 2)
	ok(t, "Scaled", e)
	same(t, "Scaled", math.Signbit(float64(s.Traces[0].Samples[0])), false)
	l, e := trace.Convolve([]float32{minus0, 1}, []int{-1, 0})
	ok(t, "Convolve", e)
	same(t, "Convolve", math.Signbit(float64(l[0])), false)
}
