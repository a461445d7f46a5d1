package horizon_test

import (
	"math"
	"reflect"
	"slices"
	"testing"

	"moveout/api"
	"moveout/horizon"
)

// same compares a result with the expected one; nil and empty lists are equal.
func same(t *testing.T, what string, got, want any) {
	t.Helper()
	if !reflect.DeepEqual(plain(got), plain(want)) {
		t.Errorf("%s: got %v, want %v", what, got, want)
	}
}

// bare returns a copy of a list, which is nil if the list is empty.
func bare[T any](l []T) []T {
	return append([]T(nil), l...)
}

// plain returns a value with nil in place of empty lists, as far as the tests compare such values.
func plain(x any) any {
	switch v := x.(type) {
	case []any:
		out := make([]any, len(v))
		for i := range v {
			out[i] = plain(v[i])
		}
		return out
	case []horizon.Horizon:
		out := bare(v)
		for i := range out {
			out[i].Picks = bare(out[i].Picks)
		}
		return out
	case horizon.Horizon:
		v.Picks = bare(v.Picks)
		return v
	case horizon.Map:
		v.Depths = bare(v.Depths)
		return v
	case []horizon.Well:
		return bare(v)
	case []api.Interval:
		return bare(v)
	case []int:
		return bare(v)
	}
	return x
}

// ok fails the test if there is an error.
func ok(t *testing.T, what string, e api.Errno) {
	t.Helper()
	if e != api.OK {
		t.Fatalf("%s: got the error %d", what, e)
	}
}

// fails checks an error, and that all results beside it are zero values.
func fails(t *testing.T, what string, e, want api.Errno, results ...any) {
	t.Helper()
	if e != want {
		t.Errorf("%s: got the error %d, want %d", what, e, want)
	}
	for _, got := range results {
		if e != api.OK && !reflect.ValueOf(plain(got)).IsZero() {
			t.Errorf("%s: got %v beside the error %d", what, got, e)
		}
	}
}

// ints returns a list of integers.
func ints(l ...int) []int { return l }

// span returns an interval.
func span(low, high int) api.Interval {
	return api.Interval{Low: low, High: high}
}

// ratio returns a ratio.
func ratio(num, den int) api.Ratio {
	return api.Ratio{Num: num, Den: den}
}

// named returns a horizon with the places and times of its picks.
func named(name string, e int, l ...int) horizon.Horizon {
	h := horizon.Horizon{Name: name, Error: e}
	for pick := range slices.Chunk(l, 2) {
		h.Picks = append(h.Picks, horizon.Pick{Place: pick[0], Time: pick[1]})
	}
	return h
}

// list returns a list of horizons.
func list(l ...horizon.Horizon) []horizon.Horizon { return l }

// top returns the horizon A of the chapter.
func top() horizon.Horizon { return named("top", 2, 0, 100, 3, 110, 6, 90) }

// base returns the horizon B of the chapter.
func base() horizon.Horizon { return named("base", 0, 1, 104, 6, 104) }

// two returns the horizons u and w of the chapter.
func two() []horizon.Horizon {
	return list(named("u", 1, 0, 10, 4, 10), named("w", 2, 0, 20, 4, 28))
}

// speeds returns the velocities of the chapter.
func speeds() []api.Interval {
	return []api.Interval{span(2, 3), span(4, 4)}
}

// well returns a well.
func well(place, index, depth, e int) horizon.Well {
	return horizon.Well{Place: place, Horizon: index, Depth: depth, Error: e}
}

// mapOf returns a map with the ends of its depths.
func mapOf(columns, rows int, l ...int) horizon.Map {
	m := horizon.Map{Columns: columns, Rows: rows}
	for ends := range slices.Chunk(l, 2) {
		m.Depths = append(m.Depths, span(ends[0], ends[1]))
	}
	return m
}

// exact returns a map each of whose depths is one integer.
func exact(columns, rows int, l ...int) horizon.Map {
	m := horizon.Map{Columns: columns, Rows: rows}
	for _, n := range l {
		m.Depths = append(m.Depths, span(n, n))
	}
	return m
}

// basin returns the map of the chapter.
func basin() horizon.Map {
	m := exact(3, 3, 9, 9, 9, 9, 0, 8, 9, 9, 9)
	m.Depths[4] = span(5, 6)
	return m
}

// full returns a horizon with a pick of the same time at each place.
func full(name string, e, time int) horizon.Horizon {
	h := named(name, e)
	for place := range horizon.MaxPlaces {
		h.Picks = append(h.Picks, horizon.Pick{Place: place, Time: time})
	}
	return h
}

// many returns so many horizons with names of their own, all through one place.
func many(horizons int) []horizon.Horizon {
	var l []horizon.Horizon
	for i := range horizons {
		l = append(l, named("h"+string(rune('a'+i)), 0, 3, 100+i))
	}
	return l
}

// Numbers that are not in the ranges of places, times, errors of horizons, throws, shifts, velocities and depths.
var (
	badPlaces     = []int{-1, 256, math.MinInt, math.MaxInt}
	badTimes      = []int{-1, 100001, math.MinInt, math.MaxInt}
	badErrors     = []int{-1, 1001, math.MinInt, math.MaxInt}
	badThrows     = []int{-10001, 10001, math.MinInt, math.MaxInt}
	badShifts     = []int{-1001, 1001, math.MinInt, math.MaxInt}
	badVelocities = []int{0, -1, 1001, math.MinInt, math.MaxInt}
	badDepths     = []int{-1, 100000001, math.MinInt, math.MaxInt}
)

// badHorizon is a horizon that is none, with its error.
type badHorizon struct {
	what string
	h    horizon.Horizon
	e    api.Errno
}

// badHorizons returns horizons with each error of CheckHorizon, and with two where their order matters.
func badHorizons() []badHorizon {
	l := []badHorizon{
		{"the zero value", horizon.Horizon{}, api.ErrName},
		{"a name before an error", named("9", -1, 1, 1), api.ErrName},
		{"a name before no picks", named("_", 0), api.ErrName},
		{"an error before no picks", named("a", 1001), api.ErrRange},
		{"an error before 257 picks", horizon.Horizon{Name: "a", Error: -1, Picks: make([]horizon.Pick, 257)}, api.ErrRange},
		{"an error before a pick", named("a", -1, 2, 1, 2, 1), api.ErrRange},
		{"no picks", named("a", 0), api.ErrEmpty},
		{"an empty list of picks", horizon.Horizon{Name: "a", Picks: []horizon.Pick{}}, api.ErrEmpty},
		{"257 picks", horizon.Horizon{Name: "a", Picks: make([]horizon.Pick, 257)}, api.ErrMany},
		{"a place twice", named("a", 0, 1, 1, 1, 2), api.ErrOrder},
		{"a pick twice", named("a", 0, 0, 0, 0, 0), api.ErrOrder},
		{"a place before", named("a", 0, 1, 1, 3, 1, 2, 1), api.ErrOrder},
		{"a place that is out of range before the order", named("a", 0, 1, 1, -1, 1), api.ErrRange},
		{"a time before the order", named("a", 0, 1, 1, 1, -1), api.ErrRange},
		{"an order before the next place", named("a", 0, 1, 1, 1, 1, 256, 1), api.ErrOrder},
		{"a time before the next order", named("a", 0, 1, 100001, 1, 1), api.ErrRange},
	}
	for _, name := range []string{"", "1a", "_a", "a b", "a-b", "\u00e4", "a\n", "a\x00", "abcdefghijklmnopqrstuvwxy"} {
		l = append(l, badHorizon{"a name", named(name, 0, 1, 1), api.ErrName})
	}
	for _, n := range badErrors {
		l = append(l, badHorizon{"an error", named("a", n, 1, 1), api.ErrRange})
	}
	for _, n := range badPlaces {
		l = append(l, badHorizon{"a place", named("a", 0, n, 1), api.ErrRange})
	}
	for _, n := range badTimes {
		l = append(l, badHorizon{"a time", named("a", 0, 1, 1, 2, n), api.ErrRange})
	}
	return l
}

// badList is a list of horizons that is none, with its error.
type badList struct {
	what string
	l    []horizon.Horizon
	e    api.Errno
}

// badLists returns lists with each error of CheckHorizons, and with two where their order matters.
func badLists() []badList {
	l := []badList{
		{"9 horizons", many(9), api.ErrMany},
		{"9 horizons that are none", make([]horizon.Horizon, 9), api.ErrMany},
		{"a name twice", list(named("a", 0, 1, 1), named("a", 1, 2, 2)), api.ErrTwice},
		{"a name twice, with others between", append(many(7), named("ha", 0, 1, 1)), api.ErrTwice},
		{"an error before the name twice", list(named("a", 0, 1, 1), named("a", -1, 1, 1)), api.ErrRange},
		{"no picks before the name twice", list(named("a", 0, 1, 1), named("a", 0)), api.ErrEmpty},
		{"a name twice before the next error", list(named("a", 0, 1, 1), named("a", 0, 1, 1), named("", 0, 1, 1)), api.ErrTwice},
		{"an error before the next name twice", list(named("a", 0, 1, 1), named("b", 0), named("a", 0, 1, 1)), api.ErrEmpty},
	}
	for _, x := range badHorizons() {
		l = append(l, badList{x.what, list(x.h), x.e}, badList{x.what + " at the end", append(two(), x.h), x.e})
	}
	return l
}

// badSpeeds is velocities that are none for two horizons, with their error.
type badSpeeds struct {
	what string
	v    []api.Interval
	e    api.Errno
}

// badSpeedsList returns velocities with each error, and with two where their order matters.
func badSpeedsList() []badSpeeds {
	l := []badSpeeds{
		{"no velocities", nil, api.ErrShape},
		{"a velocity less", speeds()[:1], api.ErrShape},
		{"a velocity more", append(speeds(), span(1, 1)), api.ErrShape},
		{"a velocity more, all bad", make([]api.Interval, 3), api.ErrShape},
		{"Low above High", []api.Interval{span(3, 2), span(4, 4)}, api.ErrOrder},
		{"Low above High at the second one", []api.Interval{span(2, 3), span(1000, 1)}, api.ErrOrder},
		{"High before the order", []api.Interval{span(3, 0), span(4, 4)}, api.ErrRange},
		{"Low before the order", []api.Interval{span(1001, 1), span(4, 4)}, api.ErrRange},
		{"an order before the next range", []api.Interval{span(3, 2), span(0, 4)}, api.ErrOrder},
		{"a range before the next order", []api.Interval{span(0, 2), span(4, 3)}, api.ErrRange},
	}
	for _, n := range badVelocities {
		l = append(l, badSpeeds{"Low", []api.Interval{span(n, 5), span(1, 1)}, api.ErrRange}, badSpeeds{"High", []api.Interval{span(1, 1), span(5, n)}, api.ErrRange})
	}
	return l
}

// badWells is wells that are none for three horizons of which the second one has fewer places, with their error.
type badWells struct {
	what  string
	wells []horizon.Well
	e     api.Errno
}

// three returns horizons with the places 0 to 4, 1 to 2, and 0 to 5.
func three() []horizon.Horizon {
	return list(named("a", 1, 0, 10, 4, 10), named("b", 1, 1, 20, 2, 20), named("c", 1, 0, 30, 5, 30))
}

// threeSpeeds returns velocities for three horizons.
func threeSpeeds() []api.Interval {
	return []api.Interval{span(1, 2), span(2, 3), span(3, 3)}
}

// badWellsList returns wells with each error, and with two where their order matters.
func badWellsList() []badWells {
	one := func(what string, w horizon.Well, e api.Errno) badWells {
		return badWells{what, []horizon.Well{well(1, 2, 50, 5), w, well(-1, 0, 0, 0)}, e}
	}
	l := []badWells{
		{"17 wells", make([]horizon.Well, 17), api.ErrMany},
		{"17 wells that are none", slices.Repeat([]horizon.Well{well(-1, -1, -1, -1)}, 17), api.ErrMany},
		one("a place before the horizon", well(256, 3, 1, 1), api.ErrRange),
		one("a horizon before the depth", well(1, 3, -1, 1), api.ErrUnknown),
		one("a depth before a place that it does not have", well(7, 0, -1, 1), api.ErrRange),
		one("an error before a place that it does not have", well(7, 0, 1, -1), api.ErrRange),
		one("a place that it does not have", well(5, 0, 1, 1), api.ErrSpan),
		one("a place that is before its horizon", well(0, 1, 1, 1), api.ErrSpan),
		one("a place that only its horizon has", well(5, 2, 1, 1), api.ErrSpan),
		one("a place that a horizon between does not have", well(3, 2, 1, 1), api.ErrSpan),
		one("a place that no horizon has", well(255, 2, 1, 1), api.ErrSpan),
	}
	for _, n := range badPlaces {
		l = append(l, one("a place", well(n, 0, 1, 1), api.ErrRange))
	}
	for _, n := range []int{-1, 3, math.MinInt, math.MaxInt} {
		l = append(l, one("a horizon", well(1, n, 1, 1), api.ErrUnknown))
	}
	for _, n := range badDepths {
		l = append(l, one("a depth", well(1, 0, n, 1), api.ErrRange), one("an error", well(1, 0, 1, n), api.ErrRange))
	}
	return l
}

// badMap is a map that is none, with its error.
type badMap struct {
	what string
	m    horizon.Map
	e    api.Errno
}

// badMaps returns maps with each error of CheckMap, and with two where their order matters.
func badMaps() []badMap {
	l := []badMap{
		{"the zero value", horizon.Map{}, api.ErrRange},
		{"a column less", exact(1, 3, 1, 2, 3, 4, 5, 6), api.ErrShape},
		{"a row more", exact(2, 4, 1, 2, 3, 4, 5, 6), api.ErrShape},
		{"no depths", exact(2, 3), api.ErrShape},
		{"a depth less", exact(2, 3, 1, 2, 3, 4, 5), api.ErrShape},
		{"a depth more", exact(2, 3, 1, 2, 3, 4, 5, 6, 7), api.ErrShape},
		{"a shape before the depths", exact(2, 2, -1), api.ErrShape},
		{"Low above High", mapOf(1, 2, 1, 1, 2, 1), api.ErrOrder},
		{"High before the order", mapOf(1, 1, 2, -1), api.ErrRange},
		{"Low before the order", mapOf(1, 1, 100000001, 1), api.ErrRange},
		{"an order before the next range", mapOf(2, 1, 3, 2, -1, 4), api.ErrOrder},
		{"a range before the next order", mapOf(2, 1, -1, 2, 4, 3), api.ErrRange},
	}
	for _, n := range []int{0, -1, 17, math.MinInt, math.MaxInt} {
		l = append(l, badMap{"columns", exact(n, 1, 1), api.ErrRange}, badMap{"rows", exact(1, n, 1), api.ErrRange}, badMap{"both", exact(n, n, 1), api.ErrRange})
	}
	for _, n := range badDepths {
		l = append(l, badMap{"Low", mapOf(2, 1, 1, 1, n, 5), api.ErrRange}, badMap{"High", mapOf(2, 1, 5, n, 1, 1), api.ErrRange})
	}
	return l
}

// random is a sequence of numbers that is the same in each run.
type random uint64

// below returns the next number from 0 to n - 1.
func (r *random) below(n int) int {
	*r = *r*6364136223846793005 + 1442695040888963407
	return int(uint64(*r) >> 33 % uint64(n))
}

// integer returns the next number from -most to most.
func (r *random) integer(most int) int {
	return r.below(2*most+1) - most
}

// within returns the next number from low to high.
func (r *random) within(low, high int) int {
	return low + r.below(high-low+1)
}

// horizon returns a horizon with up to so many picks whose times go from one to another one.
func (r *random) horizon(name string, picks, from, to int) horizon.Horizon {
	h := named(name, r.below(4))
	place := r.below(4)
	for range 1 + r.below(picks) {
		h.Picks = append(h.Picks, horizon.Pick{Place: place, Time: r.within(from, to)})
		place += 1 + r.below(5)
	}
	return h
}

// wide returns a horizon that has the places 0 to 9.
func (r *random) wide(name string, from, to int) horizon.Horizon {
	h := named(name, r.below(4), 0, r.within(from, to))
	for place := 1; place < 9; place++ {
		if r.below(3) == 0 {
			h.Picks = append(h.Picks, horizon.Pick{Place: place, Time: r.within(from, to)})
		}
	}
	h.Picks = append(h.Picks, horizon.Pick{Place: 9, Time: r.within(from, to)})
	return h
}

// column returns at most so many horizons, one below the other but for some noise, which have the places 0 to 9.
func (r *random) column(horizons int) []horizon.Horizon {
	var l []horizon.Horizon
	for i := range r.below(horizons + 1) {
		l = append(l, r.wide("h"+string(rune('a'+i)), 10*i, 10*i+12))
	}
	return l
}

// velocities returns so many velocities.
func (r *random) velocities(horizons int) []api.Interval {
	var l []api.Interval
	for range horizons {
		low := 1 + r.below(9)
		l = append(l, span(low, low+r.below(4)))
	}
	return l
}

// wells returns wells near to the depths of horizons that have the places 0 to 9.
func (r *random) wells(l []horizon.Horizon, v []api.Interval) []horizon.Well {
	var out []horizon.Well
	for range r.below(6) {
		if len(l) == 0 {
			break
		}
		w := well(r.below(10), r.below(len(l)), 0, r.below(9))
		depth := depthsOf(l, v, w.Place)[w.Horizon]
		w.Depth = max(0, r.within(depth.Low, depth.High)+r.integer(40))
		out = append(out, w)
	}
	return out
}

// area returns a map with sides up to a greatest one, and depths up to another one.
func (r *random) area(side, depth int) horizon.Map {
	m := horizon.Map{Columns: 1 + r.below(side), Rows: 1 + r.below(side)}
	for range m.Columns * m.Rows {
		low := r.below(depth + 1)
		m.Depths = append(m.Depths, span(low, r.within(low, min(low+2, depth))))
	}
	return m
}
