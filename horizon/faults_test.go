package horizon_test

import (
	"testing"

	"moveout/api"
	"moveout/horizon"
)

// P8.2: Faulted.
func TestFaulted(t *testing.T) {
	for _, x := range []struct {
		h    horizon.Horizon
		f    horizon.Fault
		want horizon.Horizon
	}{
		{top(), horizon.Fault{Place: 3, Throw: 7}, named("top", 2, 0, 100, 3, 117, 6, 97)}, {top(), horizon.Fault{Place: 2, Throw: 7}, named("top", 2, 0, 100, 3, 117, 6, 97)}, {top(), horizon.Fault{Place: 4, Throw: -90}, named("top", 2, 0, 100, 3, 110, 6, 0)}, {top(), horizon.Fault{Place: 6, Throw: 10000}, named("top", 2, 0, 100, 3, 110, 6, 10090)},
		{top(), horizon.Fault{Place: 0, Throw: -90}, named("top", 2, 0, 10, 3, 20, 6, 0)}, {top(), horizon.Fault{Place: 0, Throw: 0}, top()}, {top(), horizon.Fault{Place: 7, Throw: -10000}, top()}, {top(), horizon.Fault{Place: 255, Throw: -10000}, top()},
		{named("a", 0, 0, 90000, 1, 10000), horizon.Fault{Place: 0, Throw: 10000}, named("a", 0, 0, 100000, 1, 20000)}, {named("a", 0, 0, 90000, 1, 10000), horizon.Fault{Place: 0, Throw: -10000}, named("a", 0, 0, 80000, 1, 0)}, {named("a", 1000, 255, 1), horizon.Fault{Place: 255, Throw: -1}, named("a", 1000, 255, 0)},
	} {
		h, e := horizon.Faulted(x.h, x.f)
		ok(t, "Faulted", e)
		same(t, "Faulted", h, x.want)
	}
	r := random(3)
	for range 200 {
		h, f := r.horizon("a", 6, 10000, 90000), horizon.Fault{Place: r.below(20), Throw: r.integer(10000)}
		got, e := horizon.Faulted(h, f)
		ok(t, "Faulted", e)
		same(t, "Faulted", got, faultedOf(h, f))
	}
}

// P8.2: the errors of Faulted.
func TestFaultedErrors(t *testing.T) {
	for _, x := range badHorizons() {
		h, e := horizon.Faulted(x.h, horizon.Fault{Place: -1, Throw: 10001})
		fails(t, "Faulted of "+x.what, e, x.e, h)
	}
	low := named("a", 0, 0, 0, 5, 100000)
	for _, n := range badPlaces {
		h, e := horizon.Faulted(low, horizon.Fault{Place: n, Throw: 1})
		fails(t, "Faulted at a bad place", e, api.ErrRange, h)
	}
	for _, n := range badThrows {
		h, e := horizon.Faulted(low, horizon.Fault{Place: 3, Throw: n})
		fails(t, "Faulted by a bad throw", e, api.ErrRange, h)
	}
	for _, x := range []struct {
		h horizon.Horizon
		f horizon.Fault
	}{
		{top(), horizon.Fault{Place: 4, Throw: -91}}, {top(), horizon.Fault{Place: 0, Throw: -101}}, {top(), horizon.Fault{Place: 0, Throw: -91}}, {low, horizon.Fault{Place: 0, Throw: -1}}, {low, horizon.Fault{Place: 5, Throw: 1}}, {low, horizon.Fault{Place: 1, Throw: 10000}}, {named("a", 0, 0, 90001, 9, 5), horizon.Fault{Place: 0, Throw: 10000}}, {named("a", 0, 0, 9999, 9, 50000), horizon.Fault{Place: 0, Throw: -10000}},
	} {
		h, e := horizon.Faulted(x.h, x.f)
		fails(t, "Faulted beyond all times", e, api.ErrLarge, h)
	}
}

// P8.2: Steps.
func TestSteps(t *testing.T) {
	zigzag := named("z", 9, 1, 0, 2, 5, 4, 0, 5, 100000, 255, 0)
	for _, x := range []struct {
		h     horizon.Horizon
		slope int
		want  []int
	}{
		{top(), 0, ints(3, 6)}, {top(), 3, ints(3, 6)}, {top(), 4, ints(6)}, {top(), 5, ints(6)}, {top(), 6, ints(6)}, {top(), 7, nil}, {top(), 100000, nil},
		{base(), 0, nil}, {named("a", 0, 3, 9), 0, nil}, {named("a", 0, 255, 100000), 0, nil},
		{zigzag, 0, ints(2, 4, 5, 255)}, {zigzag, 2, ints(2, 4, 5, 255)}, {zigzag, 3, ints(2, 5, 255)}, {zigzag, 4, ints(2, 5, 255)}, {zigzag, 5, ints(5, 255)}, {zigzag, 399, ints(5, 255)}, {zigzag, 400, ints(5)}, {zigzag, 99999, ints(5)}, {zigzag, 100000, nil},
	} {
		l, e := horizon.Steps(x.h, x.slope)
		ok(t, "Steps", e)
		same(t, "Steps", l, x.want)
	}
	r := random(4)
	for range 500 {
		h, slope := r.horizon("a", 8, 0, 20), r.below(12)
		l, e := horizon.Steps(h, slope)
		ok(t, "Steps", e)
		same(t, "Steps", l, stepsOf(h, slope))
	}
}

// P8.2: Filled.
func TestFilled(t *testing.T) {
	for _, x := range []struct{ h, want horizon.Horizon }{
		{top(), named("top", 2, 0, 100, 1, 103, 2, 107, 3, 110, 4, 103, 5, 97, 6, 90)}, {base(), named("base", 0, 1, 104, 2, 104, 3, 104, 4, 104, 5, 104, 6, 104)},
		{named("a", 1, 2, 1, 4, 2), named("a", 1, 2, 1, 3, 2, 4, 2)}, {named("a", 1, 2, 2, 4, 1), named("a", 1, 2, 2, 3, 2, 4, 1)}, {named("a", 1, 0, 0, 3, 1), named("a", 1, 0, 0, 1, 0, 2, 1, 3, 1)},
		{named("a", 7, 200, 5), named("a", 7, 200, 5)}, {full("a", 3, 5), full("a", 3, 5)}, {named("a", 3, 0, 5, 255, 5), full("a", 3, 5)},
	} {
		h, e := horizon.Filled(x.h)
		ok(t, "Filled", e)
		same(t, "Filled", h, x.want)
	}
	r := random(5)
	for range 300 {
		h := r.horizon("a", 8, 0, 1+r.below(100000))
		got, e := horizon.Filled(h)
		ok(t, "Filled", e)
		same(t, "Filled", got, filledOf(h))
	}
}

// P8.2: the errors of Steps and Filled.
func TestStepsErrors(t *testing.T) {
	for _, x := range badHorizons() {
		for _, slope := range ints(1, -1) {
			l, e := horizon.Steps(x.h, slope)
			fails(t, "Steps of "+x.what, e, x.e, l)
		}
		h, e := horizon.Filled(x.h)
		fails(t, "Filled of "+x.what, e, x.e, h)
	}
	for _, slope := range badTimes {
		for _, h := range list(top(), named("a", 0, 1, 1)) {
			l, e := horizon.Steps(h, slope)
			fails(t, "Steps by a bad slope", e, api.ErrRange, l)
		}
	}
}
