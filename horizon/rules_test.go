package horizon_test

import (
	"math"
	"reflect"
	"slices"
	"strings"
	"testing"

	"moveout/api"
	"moveout/horizon"
)

// extremes are integers of any size.
var extremes = []int{math.MinInt, -1001, -1, 0, 1, 5, 16, 17, 255, 256, 1001, 100000001, math.MaxInt}

func oddHorizons() []horizon.Horizon {
	l := list(top(), base(), full("a", 1000, 100000), named("a", 0, 255, 0), horizon.Horizon{Name: strings.Repeat("a", 1000000)}, horizon.Horizon{Name: "a", Picks: make([]horizon.Pick, 100000)})
	for _, x := range badHorizons() {
		l = append(l, x.h)
	}
	for _, n := range extremes {
		l = append(l, named("a", n, n, n), named("a", 0, 0, 0, n, n), named("a", 1, n, 1), named("a", 0, n, 0, 5, n))
	}
	return l
}

func oddLists() [][]horizon.Horizon {
	l := [][]horizon.Horizon{nil, {}, two(), three(), many(8), make([]horizon.Horizon, 100000), list(full("a", 0, 0), full("b", 1000, 100000))}
	for _, x := range badLists() {
		l = append(l, x.l)
	}
	for _, h := range oddHorizons() {
		l = append(l, list(named("first", 0, 3, 3), h))
	}
	return l
}

func oddSpeeds() [][]api.Interval {
	l := [][]api.Interval{nil, {}, speeds(), threeSpeeds(), slices.Repeat([]api.Interval{span(1000, 1000)}, 8), make([]api.Interval, 100000)}
	for _, x := range badSpeedsList() {
		l = append(l, x.v)
	}
	for _, n := range extremes {
		l = append(l, []api.Interval{span(n, n), span(1, 1)}, []api.Interval{span(n, 5)}, []api.Interval{span(5, n)})
	}
	return l
}

func oddWells() [][]horizon.Well {
	l := [][]horizon.Well{nil, {}, {well(2, 1, 50, 5), well(2, 0, 30, 3)}, make([]horizon.Well, 16), make([]horizon.Well, 100000)}
	for _, x := range badWellsList() {
		l = append(l, x.wells)
	}
	for _, n := range extremes {
		l = append(l, []horizon.Well{well(n, n, n, n)}, []horizon.Well{well(2, n, 1, 1)}, []horizon.Well{well(n, 0, 1, 1)}, []horizon.Well{well(2, 0, n, 1)}, []horizon.Well{well(2, 0, 1, n)})
	}
	return l
}

func oddMaps() []horizon.Map {
	l := []horizon.Map{basin(), spiral(), level(16, 16, 100000000), exact(1, 1, 0), {Columns: 1, Rows: 1, Depths: make([]api.Interval, 100000)}}
	for _, x := range badMaps() {
		l = append(l, x.m)
	}
	for _, n := range extremes {
		l = append(l, level(1, 1, n), mapOf(2, 1, 0, n, n, 5), horizon.Map{Columns: n, Rows: n}, horizon.Map{Columns: n, Rows: 3, Depths: make([]api.Interval, 3)})
	}
	return append(l, horizon.Map{Columns: math.MinInt, Rows: 2}, horizon.Map{Columns: 1 << 32, Rows: 1 << 32})
}

func oddFaults() []horizon.Fault {
	var l []horizon.Fault
	for _, n := range extremes {
		l = append(l, horizon.Fault{Place: n, Throw: n}, horizon.Fault{Place: n, Throw: 1}, horizon.Fault{Place: 1, Throw: n})
	}
	return l
}

func oddTexts() []string {
	return []string{"", "\n", " ", "\x00", "\xff\xfe\n", "horizon", "horizon \n", "horizon a 0\n", "horizon a 0\npick 0 0\n", "pick 0 0\n", "pick\n", "horizon a 0\npick 999999999 999999999\n", strings.Repeat("\n", 1000000), strings.Repeat(" ", 1000000), strings.Repeat("horizon a 0\n", 80000), "horizon a 0\n" + strings.Repeat("pick 0 0\n", 100000), strings.Repeat("9", 1000000), strings.Repeat("x", 3000000)}
}

// The limits are those of the chapter.
func TestLimits(t *testing.T) {
	got := []int{horizon.MaxError, horizon.MaxPlaces, horizon.MaxHorizons, horizon.MaxThrow, horizon.MaxVelocity, horizon.MaxDepth, horizon.MaxWells, horizon.MinFactor, horizon.MaxFactor, horizon.Whole, horizon.MaxSide, horizon.MaxShift}
	same(t, "the limits", got, []int{1000, 256, 8, 10000, 1000, 100000000, 16, 512, 2048, 1024, 16, 1000})
}

// P1: no function panics, and together with an error every other result is its zero value.
func TestOddArguments(t *testing.T) {
	combine(t, horizon.CheckHorizon, oddHorizons())
	combine(t, horizon.CheckHorizons, oddLists())
	combine(t, horizon.At, oddHorizons(), extremes)
	combine(t, horizon.Band, oddHorizons(), extremes)
	combine(t, horizon.Crossing, oddHorizons(), oddHorizons())
	combine(t, horizon.Ordered, oddLists())
	combine(t, horizon.Faulted, oddHorizons(), oddFaults())
	combine(t, horizon.Steps, oddHorizons(), extremes)
	combine(t, horizon.Filled, oddHorizons())
	combine(t, horizon.Depths, oddLists(), oddSpeeds(), extremes)
	combine(t, horizon.Misties, oddLists(), oddSpeeds(), oddWells())
	combine(t, horizon.Factors, oddLists()[:5], oddSpeeds(), oddWells())
	combine(t, horizon.CheckMap, oddMaps())
	combine(t, horizon.Spill, oddMaps(), extremes)
	combine(t, horizon.Region, oddMaps(), extremes, extremes)
	combine(t, horizon.Volume, oddMaps(), extremes, extremes)
	combine(t, horizon.Compare, oddHorizons(), oddHorizons(), extremes)
	combine(t, horizon.Match, oddHorizons(), oddHorizons(), ints(math.MinInt, -1, 0, 3, 1001, math.MaxInt))
	combine(t, horizon.Common, oddHorizons(), oddHorizons(), extremes)
	combine(t, horizon.Print, oddLists())
	combine(t, horizon.Parse, oddTexts())
}

// combine calls a function with all combinations of the elements of some lists.
func combine(t *testing.T, f any, lists ...any) {
	t.Helper()
	calls := [][]reflect.Value{nil}
	for _, list := range lists {
		l := reflect.ValueOf(list)
		var longer [][]reflect.Value
		for _, args := range calls {
			for j := range l.Len() {
				longer = append(longer, append(slices.Clone(args), l.Index(j)))
			}
		}
		calls = longer
	}
	_, isParse := f.(func(string) ([]horizon.Horizon, int, api.Errno))
	for _, args := range calls {
		out := reflect.ValueOf(f).Call(args)
		e := out[len(out)-1].Interface().(api.Errno)
		for i, x := range out[:len(out)-1] {
			// Parse gives an index beside its errors.
			if isParse && i == 1 {
				continue
			}
			if e != api.OK && !reflect.ValueOf(plain(x.Interface())).IsZero() {
				t.Errorf("a result beside the error %v is %v", e, x)
			}
		}
	}
}

// mess changes all elements of a list, also those behind its end.
func mess[T any](l []T, to T) {
	l = l[:cap(l)]
	for i := range l {
		l[i] = to
	}
}

// messy is what stands in lists that were changed.
var (
	messyPick = horizon.Pick{Place: -99, Time: -99}
	messySpan = span(-99, -98)
)

// The rule 'Memory' for horizons.
func TestMemoryOfHorizons(t *testing.T) {
	h, l := top(), two()
	for range 2 {
		faulted, e := horizon.Faulted(h, horizon.Fault{Place: 3, Throw: 7})
		ok(t, "Faulted", e)
		same(t, "Faulted", faulted, named("top", 2, 0, 100, 3, 117, 6, 97))
		mess(faulted.Picks, messyPick)
		faulted, e = horizon.Faulted(h, horizon.Fault{Place: 7})
		ok(t, "Faulted", e)
		same(t, "Faulted by nothing", faulted, top())
		mess(faulted.Picks, messyPick)
		_, e = horizon.Faulted(h, horizon.Fault{Place: 3, Throw: -100})
		same(t, "Faulted beyond all times", e, api.ErrLarge)
		whole := full("a", 1, 1)
		filled, e := horizon.Filled(whole)
		ok(t, "Filled", e)
		mess(filled.Picks, messyPick)
		same(t, "the argument of Filled", whole, full("a", 1, 1))
		steps, e := horizon.Steps(h, 5)
		ok(t, "Steps", e)
		same(t, "Steps", steps, ints(6))
		mess(steps, -99)
		_, _, e = horizon.Crossing(h, base())
		ok(t, "Crossing", e)
		_, _, e = horizon.Ordered(l)
		ok(t, "Ordered", e)
		s, e := horizon.Print(l)
		ok(t, "Print", e)
		back, _, e := horizon.Parse(s)
		ok(t, "Parse", e)
		same(t, "Parse", back, two())
		mess(back[0].Picks, messyPick)
		same(t, "the next horizon of a text", back[1], two()[1])
		mess(back, horizon.Horizon{})
	}
	same(t, "the arguments", []any{h, l}, []any{top(), two()})
	faulted, e := horizon.Faulted(h, horizon.Fault{Place: 3, Throw: 7})
	ok(t, "Faulted", e)
	mess(h.Picks, messyPick)
	same(t, "Faulted when the argument is changed", faulted, named("top", 2, 0, 100, 3, 117, 6, 97))
}

// The rule 'Memory' for depths and wells.
func TestMemoryOfDepths(t *testing.T) {
	l, v, wells := two(), speeds(), []horizon.Well{well(2, 1, 50, 5), well(2, 0, 30, 3)}
	for range 2 {
		depths, e := horizon.Depths(l, v, 2)
		ok(t, "Depths", e)
		same(t, "Depths", depths, []api.Interval{span(18, 33), span(62, 101)})
		mess(depths, messySpan)
		ties, e := horizon.Misties(l, v, wells)
		ok(t, "Misties", e)
		same(t, "Misties", ties, ints(0))
		mess(ties, -99)
		x, e := horizon.Factors(l, v, wells)
		ok(t, "Factors", e)
		same(t, "Factors", x, span(838, 908))
	}
	same(t, "the arguments", []any{l, v, wells}, []any{two(), speeds(), []horizon.Well{well(2, 1, 50, 5), well(2, 0, 30, 3)}})
}

// The rule 'Memory' for maps.
func TestMemoryOfMaps(t *testing.T) {
	m := basin()
	for range 2 {
		spill, e := horizon.Spill(m, 4)
		ok(t, "Spill", e)
		same(t, "Spill", spill, span(8, 8))
		sure, possible, e := horizon.Region(m, 4, 9)
		ok(t, "Region", e)
		same(t, "Region", sure, ints(4, 5))
		mess(sure, -99)
		same(t, "the possible region", possible, ints(4, 5))
		mess(possible, -99)
		volume, e := horizon.Volume(m, 4, 9)
		ok(t, "Volume", e)
		same(t, "Volume", volume, span(4, 5))
	}
	same(t, "the map", m, basin())
}

// The rule 'Memory' for differences.
func TestMemoryOfLapses(t *testing.T) {
	a, b := top(), base()
	wide := base()
	wide.Error = 20
	for range 2 {
		l, e := horizon.Compare(a, b, 0)
		ok(t, "Compare", e)
		same(t, "Compare", l, ints(3, 5, 6))
		mess(l, -99)
		_, l, e = horizon.Match(a, b, 10)
		ok(t, "Match", e)
		same(t, "Match", l, ints(3, 5, 6))
		mess(l, -99)
		grounds, e := horizon.Common(a, wide, 0)
		ok(t, "Common", e)
		same(t, "Common", grounds[0], span(101, 106))
		mess(grounds, messySpan)
	}
	same(t, "the horizons", []any{a, b, wide.Picks}, []any{top(), base(), base().Picks})
}

// The rule 'Determinism': the same call has the same result again.
func TestSameAgain(t *testing.T) {
	r := random(10)
	for range 50 {
		l, m := r.column(5), r.area(6, 9)
		v := r.velocities(len(l))
		wells, cell, contact, place := r.wells(l, v), r.below(len(m.Depths)), r.below(12), r.below(10)
		a, b := r.wide("a", 0, 20), r.wide("b", 0, 20)
		for _, f := range []func() (any, api.Errno){
			func() (any, api.Errno) { x, is, e := horizon.Ordered(l); return []any{x, is}, e },
			func() (any, api.Errno) { x, e := horizon.Filled(a); return x, e },
			func() (any, api.Errno) { x, e := horizon.Depths(l, v, place); return x, e },
			func() (any, api.Errno) { x, e := horizon.Misties(l, v, wells); return x, e },
			func() (any, api.Errno) { x, e := horizon.Factors(l, v, wells); return x, e },
			func() (any, api.Errno) { x, e := horizon.Spill(m, cell); return x, e },
			func() (any, api.Errno) { x, y, e := horizon.Region(m, cell, contact); return []any{x, y}, e },
			func() (any, api.Errno) { x, e := horizon.Volume(m, cell, contact); return x, e },
			func() (any, api.Errno) { x, y, e := horizon.Match(a, b, 30); return []any{x, y}, e },
			func() (any, api.Errno) { x, e := horizon.Common(a, b, 5); return x, e },
		} {
			x, e1 := f()
			y, e2 := f()
			same(t, "a result again", y, x)
			same(t, "an error again", e2, e1)
		}
	}
}
