package filter_test

import (
	"slices"
	"testing"

	"moveout/api"
	"moveout/filter"
)

// P5.2: Ghost and Deghost.
func TestGhost(t *testing.T) {
	for _, x := range []struct {
		l     []int
		delay int
		want  []int
	}{
		{[]int{16, 32, 48, 64}, 2, []int{16, 32, 32, 32}}, {[]int{16, 32, 48, 64}, 1, []int{16, 16, 16, 16}}, {[]int{1, 2, 3, 4}, 3, []int{1, 2, 3, 3}}, {[]int{1, 2, 3, 4}, 4, []int{1, 2, 3, 4}}, {[]int{1, 2, 3, 4}, 64, []int{1, 2, 3, 4}}, {nil, 1, nil}, {[]int{-16384, 0}, 1, []int{-16384, 16384}},
	} {
		l, e := filter.Ghost(samples(x.l...), x.delay)
		ok(t, "Ghost", e)
		same(t, "Ghost", integers(l), x.want)
		back, e := filter.Deghost(l, x.delay)
		ok(t, "Deghost", e)
		same(t, "Deghost", integers(back), x.l)
	}
	r := random(3)
	for delay := 1; delay <= 64; delay++ {
		l := r.numbers(delay+20, 8192)
		want := slices.Clone(l)
		for n := delay; n < len(l); n++ {
			want[n] = l[n] - l[n-delay]
		}
		got, e := filter.Ghost(samples(l...), delay)
		ok(t, "Ghost", e)
		same(t, "Ghost", integers(got), want)
	}
	for _, l := range [][]int{{16384, -1}, {-16384, 1}, {0, 16384, -16384, 0}} {
		got, e := filter.Ghost(samples(l...), 1)
		fails(t, "Ghost of large numbers", got, e, api.ErrLarge)
	}
}

// P5.2: a list that no ghost makes from samples has none.
func TestDeghostErrors(t *testing.T) {
	for _, x := range []struct {
		l     []int
		delay int
	}{{[]int{16384, 1}, 1}, {[]int{-16384, -1}, 1}, {[]int{16384, 1, -16384}, 1}, {[]int{16384, 0, 1}, 2}, {integers(full(1024, 1100)), 64}, {integers(full(1024, 17)), 1}} {
		got, e := filter.Deghost(samples(x.l...), x.delay)
		fails(t, "Deghost of large numbers", got, e, api.ErrLarge)
	}
	l, e := filter.Deghost(full(1024, 16), 1)
	ok(t, "Deghost of 1024 samples", e)
	same(t, "the last one", l[1023], float32(1024))
	l, e = filter.Deghost(full(1024, 1024), 64)
	ok(t, "Deghost of 1024 samples", e)
	same(t, "the last one", l[1023], float32(1024))
}

// P5.2: Ghost, Deghost and Multiple return the error of the list, then that of the delay or the bottom.
func TestErrorsOfDelays(t *testing.T) {
	for what, f := range map[string]func(l []float32, delay int) ([]float32, api.Errno){"Ghost": filter.Ghost, "Deghost": filter.Deghost, "Multiple": filter.Multiple} {
		for _, delay := range badDelays {
			for _, l := range [][]float32{nil, {1}, full(1024, 16384)} {
				got, e := f(l, delay)
				fails(t, what+" with a bad delay", got, e, api.ErrRange)
			}
		}
		for _, x := range badLists() {
			for _, delay := range append([]int{1, 64}, badDelays...) {
				got, e := f(x.l, delay)
				fails(t, what+" of "+x.what, got, e, x.e)
			}
		}
	}
}

// P5.2: Notches.
func TestNotches(t *testing.T) {
	for delay := 1; delay <= 64; delay++ {
		want := []int{0}
		switch delay % 4 {
		case 0:
			want = []int{0, 1, 2, 3}
		case 2:
			want = []int{0, 2}
		}
		got, e := filter.Notches(delay)
		ok(t, "Notches", e)
		same(t, "Notches", []any{delay, got}, []any{delay, want})
	}
	for _, delay := range badDelays {
		got, e := filter.Notches(delay)
		fails(t, "Notches of a bad delay", got, e, api.ErrRange)
	}
}
