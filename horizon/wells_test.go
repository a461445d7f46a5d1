package horizon_test

import (
	"slices"
	"testing"

	"moveout/api"
	"moveout/horizon"
)

// P8.3: Misties. The depths at the place 2 are 18 to 33 and 62 to 101, those at 0 are 18 to 33 and 46 to 85.
func TestMisties(t *testing.T) {
	for _, x := range []struct {
		wells []horizon.Well
		want  []int
	}{
		{nil, nil}, {[]horizon.Well{well(2, 1, 50, 5), well(2, 0, 30, 3)}, ints(0)}, {[]horizon.Well{well(2, 0, 30, 3), well(2, 1, 50, 5), well(2, 1, 50, 11), well(0, 1, 50, 5), well(0, 1, 90, 4)}, ints(1, 2, 4)},
		// one integer in common is enough
		{[]horizon.Well{well(2, 0, 17, 0), well(2, 0, 18, 0), well(2, 0, 33, 0), well(2, 0, 34, 0)}, ints(0, 3)}, {[]horizon.Well{well(2, 1, 57, 4), well(2, 1, 57, 5), well(2, 1, 106, 5), well(2, 1, 107, 5)}, ints(0, 3)},
		// a well around all depths, and one with the greatest numbers
		{[]horizon.Well{well(2, 0, 25, 1000), well(2, 1, 100000000, 100000000), well(2, 1, 100000000, 99999899), well(2, 1, 100000000, 99999898), well(2, 0, 0, 100000000), well(2, 0, 100000000, 0)}, ints(3, 5)},
		{slices.Repeat([]horizon.Well{well(2, 0, 0, 0)}, 16), ints(0, 1, 2, 3, 4, 5, 6, 7, 8, 9, 10, 11, 12, 13, 14, 15)},
	} {
		l, e := horizon.Misties(two(), speeds(), x.wells)
		ok(t, "Misties", e)
		same(t, "Misties", l, x.want)
	}
}

// P8.3: wells ask only the horizons down to their own one.
func TestWellsAboveTheEnd(t *testing.T) {
	// at the place 0 the first horizon alone is asked, at 1 all of them: depths 9 to 22, 25 to 58, 49 to 94
	wells := []horizon.Well{well(0, 0, 23, 0), well(4, 0, 22, 0), well(1, 1, 58, 0), well(2, 2, 95, 1), well(2, 2, 96, 1)}
	l, e := horizon.Misties(three(), threeSpeeds(), wells)
	ok(t, "Misties", e)
	same(t, "Misties", l, ints(0, 4))
	x, e := horizon.Factors(three(), threeSpeeds(), wells)
	ok(t, "Factors", e)
	same(t, "Factors", x, span(1071, 2006))
}

// P8.3: Factors.
func TestFactors(t *testing.T) {
	for _, x := range []struct {
		wells []horizon.Well
		want  api.Interval
	}{
		{nil, span(512, 2048)}, {[]horizon.Well{well(2, 1, 50, 5), well(2, 0, 30, 3)}, span(838, 908)}, {[]horizon.Well{well(2, 0, 30, 3), well(2, 1, 50, 5)}, span(838, 908)},
		{[]horizon.Well{well(2, 0, 33, 0)}, span(1024, 1877)}, {[]horizon.Well{well(2, 0, 17, 1)}, span(512, 1024)}, {[]horizon.Well{well(2, 0, 18, 0)}, span(559, 1024)},
		// a well before the depth 0, and ones whose factors are hardly factors
		{[]horizon.Well{well(2, 0, 9, 100)}, span(512, 2048)}, {[]horizon.Well{well(2, 0, 9, 0)}, span(512, 512)}, {[]horizon.Well{well(2, 0, 66, 0)}, span(2048, 2048)}, {[]horizon.Well{well(2, 1, 31, 0), well(2, 0, 1, 100)}, span(512, 512)},
		{[]horizon.Well{well(2, 1, 100000000, 100000000)}, span(512, 2048)},
	} {
		got, e := horizon.Factors(two(), speeds(), x.wells)
		ok(t, "Factors", e)
		same(t, "Factors", got, x.want)
	}
	// a depth of 0 is 0 with each factor
	flat := list(named("u", 0, 0, 0))
	got, e := horizon.Factors(flat, speeds()[:1], []horizon.Well{well(0, 0, 0, 0), well(0, 0, 5, 5)})
	ok(t, "Factors", e)
	same(t, "Factors of a depth of 0", got, span(512, 2048))
	got, e = horizon.Factors(flat, speeds()[:1], []horizon.Well{well(0, 0, 6, 5)})
	fails(t, "Factors of a depth of 0", e, api.ErrInfeasible, got)
}

// P8.3: misties and factors are those of the definition; all integers between two factors are factors, too.
func TestWellsByDefinition(t *testing.T) {
	r := random(7)
	seen := map[bool]int{}
	for range 300 {
		l := r.column(4)
		v := r.velocities(len(l))
		wells := r.wells(l, v)
		ties, e := horizon.Misties(l, v, wells)
		ok(t, "Misties", e)
		same(t, "Misties", ties, mistiesOf(l, v, wells))
		factors := factorsOf(l, v, wells)
		x, e := horizon.Factors(l, v, wells)
		seen[len(factors) > 0]++
		if len(factors) == 0 {
			fails(t, "Factors", e, api.ErrInfeasible, x)
			continue
		}
		ok(t, "Factors", e)
		last := len(factors) - 1
		same(t, "Factors", x, span(factors[0], factors[last]))
		same(t, "all integers between are factors", factors[last]-factors[0], last)
	}
	if seen[true] < 50 || seen[false] < 50 {
		t.Errorf("wells with and without factors: %v", seen)
	}
}

// P8.3: the errors of Misties and Factors.
func TestWellsErrors(t *testing.T) {
	check := func(what string, l []horizon.Horizon, v []api.Interval, wells []horizon.Well, want api.Errno) {
		t.Helper()
		ties, e := horizon.Misties(l, v, wells)
		fails(t, "Misties of "+what, e, want, ties)
		x, e := horizon.Factors(l, v, wells)
		fails(t, "Factors of "+what, e, want, x)
	}
	for _, x := range badLists() {
		check(x.what, x.l, nil, nil, x.e)
		check(x.what, x.l, make([]api.Interval, len(x.l)), make([]horizon.Well, 17), x.e)
	}
	for _, x := range badSpeedsList() {
		check(x.what, two(), x.v, nil, x.e)
		check(x.what, two(), x.v, make([]horizon.Well, 17), x.e)
	}
	for _, x := range badWellsList() {
		check(x.what, three(), threeSpeeds(), x.wells, x.e)
	}
	check("nothing", nil, nil, []horizon.Well{well(0, 0, 0, 0)}, api.ErrUnknown)
	check("nothing, at a bad place", nil, nil, []horizon.Well{well(-1, 0, 0, 0)}, api.ErrRange)
}

// P8.3: Factors without a factor, where Misties has results.
func TestNoFactors(t *testing.T) {
	for _, wells := range [][]horizon.Well{
		{well(2, 0, 0, 0)}, {well(2, 0, 8, 0)}, {well(2, 0, 67, 0)}, {well(2, 0, 68, 1)}, {well(2, 0, 100000000, 1)}, {well(2, 0, 10, 0), well(2, 0, 60, 0)}, {well(2, 0, 60, 0), well(2, 1, 62, 0)},
	} {
		x, e := horizon.Factors(two(), speeds(), wells)
		fails(t, "Factors", e, api.ErrInfeasible, x)
		_, e = horizon.Misties(two(), speeds(), wells)
		ok(t, "Misties", e)
	}
}
