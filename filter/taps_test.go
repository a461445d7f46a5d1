package filter_test

import (
	"testing"

	"moveout/api"
	"moveout/filter"
)

// P5.1: CheckTaps.
func TestCheckTaps(t *testing.T) {
	for _, taps := range [][]int{{1}, {-1}, {16}, {-16, 16}, {1, 0, 0}, {1, 2, 3, 4, 5, 6, 7, 8}, {16, -16, 16, -16, 16, -16, 16, -16}} {
		same(t, "CheckTaps", []any{taps, filter.CheckTaps(taps)}, []any{taps, api.OK})
	}
	for _, x := range badTapLists() {
		same(t, "CheckTaps of "+x.what, filter.CheckTaps(x.taps), x.e)
	}
}

// change is a function of taps and a list.
type change struct {
	what string
	f    func(taps []int, l []float32) ([]float32, api.Errno)
}

var changes = []change{{"Apply", filter.Apply}, {"Undo", filter.Undo}, {"Adjoint", filter.Adjoint}}

// P5.1: Apply, Undo and Adjoint return the error of the taps, then that of the list.
func TestErrorsOfTapsAndLists(t *testing.T) {
	for _, c := range changes {
		for _, x := range badTapLists() {
			for _, l := range [][]float32{nil, {1}, {nan}, make([]float32, 1025)} {
				got, e := c.f(x.taps, l)
				fails(t, c.what+" of "+x.what, got, e, x.e)
			}
		}
		for _, x := range badLists() {
			for _, taps := range [][]int{{1}, {2}, {1, -16}} {
				got, e := c.f(taps, x.l)
				fails(t, c.what+" of "+x.what, got, e, x.e)
			}
		}
	}
}

// P5.1: Apply.
func TestApply(t *testing.T) {
	for _, x := range []struct{ taps, l, want []int }{
		{[]int{1, -2}, []int{16, 32, 48}, []int{16, 0, -16}}, {[]int{3}, []int{1, -2}, []int{3, -6}}, {[]int{1, 0, 0, 5}, []int{1, 2, 3}, []int{1, 2, 3}}, {[]int{1, 0, 5}, []int{1, 2, 3}, []int{1, 2, 8}}, {[]int{1}, nil, nil}, {[]int{16, -16}, []int{1024, 2048}, []int{16384, 16384}}, {[]int{1, 1}, []int{-16384, 0}, []int{-16384, -16384}},
		{[]int{1, 2, 3, 4, 5, 6, 7, 8}, []int{1, 0, 0, 0, 0, 0, 0, 0, 0, 1}, []int{1, 2, 3, 4, 5, 6, 7, 8, 0, 1}},
	} {
		l, e := filter.Apply(x.taps, samples(x.l...))
		ok(t, "Apply", e)
		same(t, "Apply", integers(l), x.want)
	}
	for _, x := range []struct{ taps, l []int }{
		{[]int{2}, []int{8193}}, {[]int{2}, []int{0, -8193}}, {[]int{1, 1}, []int{16384, 1}}, {[]int{1, -1, 1}, []int{0, 16384, -1, 0}}, {[]int{16, 16, 16, 16, 16, 16, 16, 16}, integers(full(1024, 16384))}, {[]int{1, -1}, []int{16384, 0, 16384, -1}},
	} {
		l, e := filter.Apply(x.taps, samples(x.l...))
		fails(t, "Apply of large numbers", l, e, api.ErrLarge)
	}
}

// P5.1: Undo.
func TestUndo(t *testing.T) {
	for _, x := range []struct{ taps, l, want []int }{
		{[]int{1, -2}, []int{16, 0, -16}, []int{16, 32, 48}}, {[]int{-1, 2}, []int{-16, 0, 16}, []int{16, 32, 48}}, {[]int{1, -1}, []int{1, 0, 0, 2}, []int{1, 1, 1, 3}}, {[]int{1, 0, -1}, []int{1, 0, 0, 0, 1}, []int{1, 0, 1, 0, 2}}, {[]int{-1}, []int{5, -6}, []int{-5, 6}}, {[]int{1}, nil, nil}, {[]int{1, -16}, []int{1024, 0}, []int{1024, 16384}}, {[]int{1, 16}, []int{1024, 0}, []int{1024, -16384}},
		{[]int{1, 0, 0, 0, 0, 0, 0, 5}, []int{1, 2, 3}, []int{1, 2, 3}}, {[]int{1, 0, 0, 0, 0, 0, 0, 5}, []int{1, 0, 0, 0, 0, 0, 0, 0, 9}, []int{1, 0, 0, 0, 0, 0, 0, -5, 9}},
	} {
		l, e := filter.Undo(x.taps, samples(x.l...))
		ok(t, "Undo", e)
		same(t, "Undo", integers(l), x.want)
	}
	for _, taps := range [][]int{{2}, {-2}, {16, 1}, {3, 0, 0}, {-16}} {
		for _, l := range [][]float32{nil, {1}, {2, 2}, {1024, 1024}} {
			got, e := filter.Undo(taps, l)
			fails(t, "Undo of another first tap", got, e, api.ErrRule)
		}
	}
	for _, x := range []struct{ taps, l []int }{
		{[]int{1, -16}, []int{1025, 0}}, {[]int{1, 16}, []int{1025, 0}}, {[]int{1, -1}, []int{16384, 1, -16384}}, {[]int{-1, 1}, []int{16384, 1, -16384}},
		// 16 to the power of 16 is 0 where numbers wrap around.
		{[]int{1, -16}, append([]int{1}, make([]int, 1023)...)}, {[]int{1, 0, 0, 0, 0, 0, 0, 16}, append([]int{16}, make([]int, 1023)...)},
	} {
		l, e := filter.Undo(x.taps, samples(x.l...))
		fails(t, "Undo of large numbers", l, e, api.ErrLarge)
	}
}

// P5.1: Adjoint.
func TestAdjoint(t *testing.T) {
	for _, x := range []struct{ taps, l, want []int }{
		{[]int{1, -2}, []int{16, 32, 48}, []int{-48, -64, 48}}, {[]int{3}, []int{1, -2}, []int{3, -6}}, {[]int{1, 0, 5}, []int{1, 2, 3}, []int{16, 2, 3}}, {[]int{1, 0, 0, 5}, []int{1, 2, 3}, []int{1, 2, 3}}, {[]int{1}, nil, nil}, {[]int{1, 1}, []int{0, -16384}, []int{-16384, -16384}},
		{[]int{1, 2, 3, 4, 5, 6, 7, 8}, []int{0, 0, 0, 0, 0, 0, 0, 0, 0, 1}, []int{0, 0, 8, 7, 6, 5, 4, 3, 2, 1}},
	} {
		l, e := filter.Adjoint(x.taps, samples(x.l...))
		ok(t, "Adjoint", e)
		same(t, "Adjoint", integers(l), x.want)
	}
	for _, x := range []struct{ taps, l []int }{
		{[]int{2}, []int{8193}}, {[]int{2}, []int{0, -8193}}, {[]int{1, 1}, []int{1, 16384}}, {[]int{1, -1}, []int{0, -1, 16384}},
	} {
		l, e := filter.Adjoint(x.taps, samples(x.l...))
		fails(t, "Adjoint of large numbers", l, e, api.ErrLarge)
	}
}

// P5.1: Apply and Adjoint follow their definitions, and Undo leads back.
func TestTapsByDefinition(t *testing.T) {
	r := random(1)
	large := 0
	for range 500 {
		taps, l := r.taps(16), r.numbers(r.below(20), 1<<r.below(15))
		for _, x := range []struct {
			what string
			f    func(taps []int, l []float32) ([]float32, api.Errno)
			want []int
		}{{"Apply", filter.Apply, appliedOf(taps, l)}, {"Adjoint", filter.Adjoint, adjointOf(taps, l)}} {
			got, e := x.f(taps, samples(l...))
			if !fits(x.want) {
				large++
				fails(t, x.what, got, e, api.ErrLarge)
				continue
			}
			ok(t, x.what, e)
			same(t, x.what, integers(got), x.want)
		}
	}
	if large < 50 || large > 900 {
		t.Errorf("%d results were too large", large)
	}
}

// P5.1: Inner.
func TestInner(t *testing.T) {
	for _, x := range []struct {
		a, b []float32
		want int
	}{
		{[]float32{1, 0, -1}, []float32{1, 2, 3}, -512}, {[]float32{1, 2, 3}, []float32{-3, -4, 3}, -512}, {nil, nil, 0}, {[]float32{0.0625}, []float32{-0.0625}, -1}, {full(1024, 16384), full(1024, -16384), -274877906944}, {full(1024, -16384), full(1024, -16384), 274877906944}, {[]float32{minus0}, []float32{5}, 0},
	} {
		n, e := filter.Inner(x.a, x.b)
		ok(t, "Inner", e)
		same(t, "Inner", n, x.want)
	}
	for _, x := range [][2][]float32{{nil, {1}}, {{1}, nil}, {{1, 2}, {1, 2, 3}}, {make([]float32, 1024), make([]float32, 1023)}} {
		n, e := filter.Inner(x[0], x[1])
		fails(t, "Inner of different lengths", n, e, api.ErrShape)
	}
	checkPairErrors(t, "Inner", func(a, b []float32) (any, api.Errno) {
		n, e := filter.Inner(a, b)
		return n, e
	})
}

// checkPairErrors checks that a function of two lists returns the error of the first one, then that of the second one, and both before another length.
func checkPairErrors(t *testing.T, what string, f func(a, b []float32) (any, api.Errno)) {
	t.Helper()
	for _, x := range badLists() {
		for _, other := range [][]float32{nil, {1}, make([]float32, len(x.l)), {2000, nan}, make([]float32, 1025)} {
			got, e := f(x.l, other)
			fails(t, what+" of "+x.what, got, e, x.e)
		}
		for _, other := range [][]float32{nil, {1}, full(min(len(x.l), 1024), 16)} {
			got, e := f(other, x.l)
			fails(t, what+" with "+x.what, got, e, x.e)
		}
	}
}

// P5.1: Response.
func TestResponse(t *testing.T) {
	for _, x := range []struct {
		taps []int
		want [4]complex128
	}{
		{[]int{1, -2}, [4]complex128{-1, 1 + 2i, 3, 1 - 2i}}, {[]int{5}, [4]complex128{5, 5, 5, 5}}, {[]int{1, 0, -1}, [4]complex128{0, 2, 0, 2}}, {[]int{1, 0, 0, 0, -1}, [4]complex128{}}, {[]int{1, 1, 1, 1}, [4]complex128{4}}, {[]int{16, 16, 16, 16, 16, 16, 16, 16}, [4]complex128{128}}, {[]int{16, -16, 16, -16, 16, -16, 16, -16}, [4]complex128{2: 128}},
	} {
		got, e := filter.Response(x.taps)
		ok(t, "Response", e)
		same(t, "Response", got, x.want)
	}
	r := random(2)
	for range 200 {
		taps := r.taps(16)
		got, e := filter.Response(taps)
		ok(t, "Response", e)
		same(t, "Response", got == responseOf(taps), true)
	}
	for _, x := range badTapLists() {
		got, e := filter.Response(x.taps)
		fails(t, "Response of "+x.what, got, e, x.e)
	}
}
