package horizon_test

import (
	"math/big"
	"slices"
	"testing"

	"moveout/api"
	"moveout/horizon"
)

// rounds is how many random arguments a consequence is tried with.
const rounds = 300

// timeAt, bandAt and filledOnce call functions that have no error.
func timeAt(t *testing.T, h horizon.Horizon, place int) *big.Rat {
	t.Helper()
	x, e := horizon.At(h, place)
	ok(t, "At", e)
	return big.NewRat(int64(x.Num), int64(x.Den))
}

func bandAt(t *testing.T, h horizon.Horizon, place int) api.Interval {
	t.Helper()
	x, e := horizon.Band(h, place)
	ok(t, "Band", e)
	return x
}

func filledOnce(t *testing.T, h horizon.Horizon) horizon.Horizon {
	t.Helper()
	out, e := horizon.Filled(h)
	ok(t, "Filled", e)
	return out
}

// isWithin reports whether an interval lies in another one.
func isWithin(a, b api.Interval) bool {
	return b.Low <= a.Low && a.High <= b.High
}

// P8.6: a filled horizon has no other times at its picks.
func TestFilledKeepsPicks(t *testing.T) {
	r := random(11)
	for range rounds {
		h := r.horizon("a", 8, 0, 1+r.below(100000))
		f := filledOnce(t, h)
		ok(t, "CheckHorizon", horizon.CheckHorizon(f))
		same(t, "the places of a filled horizon", placesOf(f), placesOf(h))
		for _, p := range h.Picks {
			same(t, "the time at a pick", timeAt(t, f, p.Place).Cmp(timeAt(t, h, p.Place)), 0)
		}
		same(t, "filled again", filledOnce(t, f), f)
	}
}

// P8.6, P9: the bands of a horizon hold its times, and those of a filled one with an error hold the old times.
func TestBandsHoldTimes(t *testing.T) {
	r := random(12)
	for range rounds {
		h := r.horizon("a", 8, 0, 1+r.below(100000))
		h.Error = r.below(3)
		f := filledOnce(t, h)
		for _, place := range placesOf(h) {
			old := timeAt(t, h, place)
			holds := func(x api.Interval) bool {
				return big.NewRat(int64(x.Low), 1).Cmp(old) <= 0 && old.Cmp(big.NewRat(int64(x.High), 1)) <= 0
			}
			same(t, "a band holds the time", holds(bandAt(t, h, place)), true)
			// Without an error the band of a filled horizon is its time alone, which is rounded.
			if h.Error > 0 {
				same(t, "a filled band holds the old time", holds(bandAt(t, f, place)), true)
			}
			same(t, "a filled band lies in the old one", isWithin(bandAt(t, f, place), bandAt(t, h, place)), true)
		}
	}
}

// P8.6: a fault that is undone leaves the horizon.
func TestFaultUndone(t *testing.T) {
	r := random(13)
	undone := 0
	for range rounds {
		h, f := r.horizon("a", 8, 0, 100000), horizon.Fault{Place: r.below(24), Throw: r.integer(10000)}
		there, e := horizon.Faulted(h, f)
		if e == api.ErrLarge {
			continue
		}
		ok(t, "Faulted", e)
		f.Throw = -f.Throw
		back, e := horizon.Faulted(there, f)
		ok(t, "Faulted", e)
		same(t, "a fault undone", back, h)
		undone++
	}
	if undone < rounds/2 {
		t.Errorf("%d faults were undone", undone)
	}
}

// P9: horizons keep their order through a fault, where all have a pick at each place.
func TestFaultKeepsOrder(t *testing.T) {
	r := random(14)
	ordered := map[bool]int{}
	for range rounds {
		f := horizon.Fault{Place: r.below(12), Throw: r.integer(50)}
		var before, after []horizon.Horizon
		for i := range 3 {
			h := filledOnce(t, r.wide(string(rune('a'+i)), 60+10*i, 72+10*i))
			there, e := horizon.Faulted(h, f)
			ok(t, "Faulted", e)
			before, after = append(before, h), append(after, there)
		}
		first, crosses, e := horizon.Ordered(before)
		ok(t, "Ordered", e)
		second, still, e := horizon.Ordered(after)
		ok(t, "Ordered", e)
		same(t, "the crossing behind a fault", []any{second, still}, []any{first, crosses})
		ordered[crosses]++
	}
	if ordered[true] < 30 || ordered[false] < 30 {
		t.Errorf("horizons with and without a crossing: %v", ordered)
	}
}

// P8.6, P9: filling keeps the order.
func TestFilledKeepsOrder(t *testing.T) {
	r := random(15)
	kept := 0
	for range rounds {
		l := list(r.wide("a", 0, 14), r.wide("b", 10, 24), r.wide("c", 20, 34))
		_, crosses, e := horizon.Ordered(l)
		ok(t, "Ordered", e)
		if crosses {
			continue
		}
		first, crosses, e := horizon.Ordered(list(filledOnce(t, l[0]), filledOnce(t, l[1]), filledOnce(t, l[2])))
		ok(t, "Ordered", e)
		same(t, "filled horizons are ordered", []any{first, crosses}, []any{[3]int{}, false})
		kept++
	}
	if kept < 30 {
		t.Errorf("%d lists were ordered", kept)
	}
}

// P8.1: the crossing of a list is one of its pairs, and no pair before that one crosses.
func TestOrderedIsFirst(t *testing.T) {
	r := random(16)
	for range rounds {
		l := r.column(6)
		first, crosses, e := horizon.Ordered(l)
		ok(t, "Ordered", e)
		for i := range l {
			for j := i + 1; j < len(l); j++ {
				place, is, e := horizon.Crossing(l[i], l[j])
				ok(t, "Crossing", e)
				switch order := slices.Compare(ints(i, j), first[:2]); {
				case !crosses || order < 0:
					same(t, "a pair before the first one", is, false)
				case order == 0:
					same(t, "the first pair", []any{place, is}, []any{first[2], true})
				}
			}
		}
	}
}

// P8.6, P9: depths never become less from one horizon to the next one.
func TestDepthsAreOrdered(t *testing.T) {
	r := random(17)
	for range rounds {
		l := r.column(8)
		for place := range 10 {
			depths, e := horizon.Depths(l, r.velocities(len(l)), place)
			ok(t, "Depths", e)
			last := span(0, 0)
			for _, x := range depths {
				same(t, "depths are ordered", last.Low <= x.Low && last.High <= x.High && x.Low <= x.High, true)
				last = x
			}
		}
	}
}

// P8.6, P9: every true column lies in the depths.
func TestTrueColumns(t *testing.T) {
	r := random(18)
	columns := 0
	for range 4 * rounds {
		l := r.column(5)
		v, place := r.velocities(len(l)), r.below(10)
		depths, e := horizon.Depths(l, v, place)
		ok(t, "Depths", e)
		time, depth := 0, 0
		for i, h := range l {
			band := bandAt(t, h, place)
			if band.High < time {
				break
			}
			next := r.within(max(time, band.Low), band.High)
			depth += (next - time) * r.within(v[i].Low, v[i].High)
			time = next
			same(t, "a true depth lies in the interval", depths[i].Low <= depth && depth <= depths[i].High, true)
			columns++
		}
	}
	if columns < rounds {
		t.Errorf("there were %d true depths", columns)
	}
}

// P8.6, P9: what is narrower has narrower depths.
func TestNarrowerDepths(t *testing.T) {
	r := random(19)
	for range rounds {
		l := r.column(6)
		v, place := r.velocities(len(l)), r.below(10)
		wide, e := horizon.Depths(l, v, place)
		ok(t, "Depths", e)
		for i := range l {
			l[i].Error -= r.below(l[i].Error + 1)
			v[i].Low += r.below(v[i].High - v[i].Low + 1)
			v[i].High -= r.below(v[i].High - v[i].Low + 1)
		}
		narrow, e := horizon.Depths(l, v, place)
		ok(t, "Depths", e)
		for i := range l {
			same(t, "a narrower depth", isWithin(narrow[i], wide[i]), true)
		}
	}
}

// P8.3: wells on a true column contradict nothing; with factors, Whole is one of them.
func TestTrueWells(t *testing.T) {
	r := random(20)
	for range rounds {
		l := r.column(5)
		v := r.velocities(len(l))
		var wells []horizon.Well
		for i := range l {
			place, e := r.below(10), r.below(5)
			depths, code := horizon.Depths(l, v, place)
			ok(t, "Depths", code)
			wells = append(wells, well(place, i, max(0, r.within(depths[i].Low, depths[i].High)+r.integer(e)), e))
		}
		ties, e := horizon.Misties(l, v, wells)
		ok(t, "Misties", e)
		same(t, "the wells of a true column", ties, []int(nil))
		x, e := horizon.Factors(l, v, wells)
		ok(t, "Factors", e)
		same(t, "all velocities could be what they are", x.Low <= horizon.Whole && horizon.Whole <= x.High, true)
	}
}

// P8.6: a region that does not reach the spill has no cell of the border, one that is beyond it has.
func TestRegionsAndSpills(t *testing.T) {
	r := random(21)
	inner := 0
	for range 4 * rounds {
		m := r.area(8, 9)
		// The border is deeper than most cells, so that regions need not reach it.
		for cell := range m.Depths {
			if isBorder(m, cell) {
				m.Depths[cell].Low += 7
				m.Depths[cell].High += 7
			}
		}
		cell, contact := r.below(len(m.Depths)), r.below(18)
		spill, e := horizon.Spill(m, cell)
		ok(t, "Spill", e)
		same(t, "a spill", spill.Low <= spill.High, true)
		sure, possible, e := horizon.Region(m, cell, contact)
		ok(t, "Region", e)
		onBorder := func(cell int) bool { return isBorder(m, cell) }
		same(t, "the sure region reaches the border", slices.ContainsFunc(sure, onBorder), contact > spill.High)
		same(t, "the possible region reaches the border", slices.ContainsFunc(possible, onBorder), contact > spill.Low)
		for _, c := range sure {
			same(t, "the sure region is possible", slices.Contains(possible, c), true)
		}
		if len(possible) > 0 && contact <= spill.Low {
			inner++
		}
	}
	if inner < 30 {
		t.Errorf("%d regions had cells, but none of the border", inner)
	}
}

// P8.6, P9: shallower maps have greater volumes and lesser spills; all depths in the intervals lead into the intervals of a map.
func TestShallowerMaps(t *testing.T) {
	r := random(22)
	for range 4 * rounds {
		m := r.area(6, 9)
		cell, contact := r.below(len(m.Depths)), r.below(12)
		volume, e := horizon.Volume(m, cell, contact)
		ok(t, "Volume", e)
		spill, e := horizon.Spill(m, cell)
		ok(t, "Spill", e)
		same(t, "a volume", 0 <= volume.Low && volume.Low <= volume.High, true)
		true1, shallower := m, m
		true1.Depths, shallower.Depths = nil, nil
		for _, x := range m.Depths {
			depth, by := r.within(x.Low, x.High), r.below(3)
			true1.Depths = append(true1.Depths, span(depth, depth))
			shallower.Depths = append(shallower.Depths, span(max(0, x.Low-by), max(0, x.High-by)))
		}
		one, e := horizon.Volume(true1, cell, contact)
		ok(t, "Volume", e)
		same(t, "a true volume", one.Low == one.High && isWithin(one, volume), true)
		one, e = horizon.Spill(true1, cell)
		ok(t, "Spill", e)
		same(t, "a true spill", one.Low == one.High && isWithin(one, spill), true)
		more, e := horizon.Volume(shallower, cell, contact)
		ok(t, "Volume", e)
		same(t, "a shallower map has a greater volume", more.Low >= volume.Low && more.High >= volume.High, true)
		less, e := horizon.Spill(shallower, cell)
		ok(t, "Spill", e)
		same(t, "a shallower map has a lesser spill", less.Low <= spill.Low && less.High <= spill.High, true)
	}
}

// P8.6: two horizons do not differ exactly where they have a common ground.
func TestGroundOrDifference(t *testing.T) {
	r := random(23)
	seen := map[bool]int{}
	for range 2 * rounds {
		a, b, shift := r.horizon("a", 4, 0, 16), r.horizon("b", 4, 0, 16), r.integer(9)
		l, e := horizon.Compare(a, b, shift)
		if e == api.ErrNone {
			continue
		}
		ok(t, "Compare", e)
		grounds, e := horizon.Common(a, b, shift)
		same(t, "a common ground", e == api.OK, len(l) == 0)
		seen[e == api.OK]++
		for i, ground := range grounds {
			place := commonOf(a, b)[i]
			moved := bandAt(t, b, place)
			same(t, "a ground is in both bands", isWithin(ground, bandAt(t, a, place)) && isWithin(ground, span(moved.Low+shift, moved.High+shift)), true)
		}
		back, e := horizon.Compare(b, a, -shift)
		ok(t, "Compare", e)
		same(t, "the same differences the other way round", back, l)
	}
	if seen[true] < 30 || seen[false] < 30 {
		t.Errorf("horizons with and without a ground: %v", seen)
	}
}

// P9: a difference that is reported is explained by no single ground: no integer is in both bands.
func TestDifferencesAreReal(t *testing.T) {
	r := random(24)
	for range rounds {
		a, b, shift := r.horizon("a", 4, 0, 30), r.horizon("b", 4, 0, 30), r.integer(9)
		l, e := horizon.Compare(a, b, shift)
		if e == api.ErrNone {
			continue
		}
		ok(t, "Compare", e)
		grounds := groundOf(a, b, shift)
		for i, place := range commonOf(a, b) {
			same(t, "no ground where they differ", len(grounds[i]) == 0, slices.Contains(l, place))
		}
	}
}

// P8.6, P9: what comes from one ground within both errors never differs.
func TestOneGroundNeverDiffers(t *testing.T) {
	r := random(25)
	for range rounds {
		ground, shift := r.horizon("g", 9, 1000, 1060), r.integer(900)
		first, second := horizon.Horizon{Name: "a", Error: r.below(6)}, horizon.Horizon{Name: "b", Error: r.below(6)}
		// With a pick at each place, both horizons lie within their errors of the ground, the second one moved.
		for _, p := range filledOnce(t, ground).Picks {
			first.Picks = append(first.Picks, horizon.Pick{Place: p.Place, Time: p.Time + r.integer(first.Error)})
			second.Picks = append(second.Picks, horizon.Pick{Place: p.Place, Time: p.Time - shift + r.integer(second.Error)})
		}
		l, e := horizon.Compare(first, second, shift)
		ok(t, "Compare", e)
		same(t, "one ground", l, []int(nil))
		grounds, e := horizon.Common(first, second, shift)
		ok(t, "Common", e)
		for i, p := range filledOnce(t, ground).Picks {
			same(t, "the ground is a common one", grounds[i].Low <= p.Time && p.Time <= grounds[i].High, true)
		}
		_, l, e = horizon.Match(first, second, max(shift, -shift))
		ok(t, "Match", e)
		same(t, "the match of one ground", l, []int(nil))
	}
}

// P8.5: no other shift has fewer differences than the match.
func TestMatchIsBest(t *testing.T) {
	r := random(26)
	for range rounds / 4 {
		a, b, most := r.horizon("a", 5, 0, 40), r.horizon("b", 5, 0, 40), r.below(50)
		best, l, e := horizon.Match(a, b, most)
		if e == api.ErrNone {
			continue
		}
		ok(t, "Match", e)
		same(t, "the match is within", -most <= best && best <= most, true)
		for shift := -most; shift <= most; shift++ {
			other, e := horizon.Compare(a, b, shift)
			ok(t, "Compare", e)
			better := len(other) < len(l) || len(other) == len(l) && (absolute(shift) < absolute(best) || absolute(shift) == absolute(best) && shift < best)
			same(t, "no shift is better", better, false)
			if shift == best {
				same(t, "the differences by the match", other, l)
			}
		}
	}
}

// P8.6: horizons are parsed as they were printed.
func TestParsePrinted(t *testing.T) {
	r := random(27)
	for range rounds {
		var l []horizon.Horizon
		for i := range r.below(9) {
			h := r.horizon("h_"+string(rune('a'+i)), 20, 0, 100000)
			h.Error = r.below(1001)
			l = append(l, h)
		}
		s, e := horizon.Print(l)
		ok(t, "Print", e)
		back, line, e := horizon.Parse(s)
		ok(t, "Parse", e)
		same(t, "Parse of Print", []any{back, line}, []any{l, 0})
		again, e := horizon.Print(back)
		ok(t, "Print", e)
		same(t, "Print of Parse", again, s)
	}
}
