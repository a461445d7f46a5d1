package survey_test

import (
	"slices"
	"testing"

	"moveout/api"
	"moveout/survey"
)

// rounds is how many random arguments a consequence is tried with.
const rounds = 400

// insides, levels and diary call functions whose arguments have no error.
func insides(t *testing.T, v survey.Vessel, w survey.Watch, l []survey.Sighting) []bool {
	t.Helper()
	is, e := survey.Inside(v, w, l)
	ok(t, "Inside", e)
	return is
}

func levels(t *testing.T, v survey.Vessel, w survey.Watch, l []survey.Sighting) []int {
	t.Helper()
	out, e := survey.Levels(v, w, l)
	ok(t, "Levels", e)
	return out
}

func diary(t *testing.T, v survey.Vessel, w survey.Watch, l []survey.Sighting, shares, weather []api.Span) []survey.Entry {
	t.Helper()
	out, e := survey.Diary(v, w, l, shares, weather)
	ok(t, "Diary", e)
	return out
}

// P9.6, P10: no shot is permitted while an animal may be inside, nor in the ticks of the clear watch behind that.
func TestNoShotNearAnimals(t *testing.T) {
	r := random(11)
	near, soon := 0, 0
	for range rounds {
		v, w := r.vessel(40), r.watch()
		l := r.sightings(v, 5)
		// At first nobody has watched, as if an animal had been inside until then.
		last := -1
		for tick, inside := range insides(t, v, w, l) {
			if inside {
				last = tick
			}
			for _, level := range ints(1, w.Soft+1, 1001) {
				e := survey.CheckFires(v, w, l, fire(tick, level))
				switch {
				case inside:
					same(t, "a shot while an animal may be inside", e, api.ErrInside)
					near++
				case tick-last <= w.Clear:
					same(t, "a shot in the clear watch", e, api.ErrRule)
					soon++
				case level == 1:
					same(t, "the softest shot behind the clear watch", e, api.OK)
				}
			}
		}
	}
	if near < 1000 || soon < 1000 {
		t.Errorf("%d shots while an animal may be inside, %d in the clear watch", near, soon)
	}
}

// P9.6, P10: a shot that is permitted is at most as loud as the soft start permits from the last animal on.
func TestSoftStarts(t *testing.T) {
	r := random(12)
	for range rounds {
		v, w := r.vessel(40), r.watch()
		l := r.sightings(v, 5)
		last := -1
		for tick, inside := range insides(t, v, w, l) {
			if inside {
				last = tick
				continue
			}
			for level := 1; level <= w.Soft+2; level++ {
				permitted := level <= w.Soft+1 && level <= tick-last-w.Clear
				same(t, "a permitted shot", survey.CheckFires(v, w, l, fire(tick, level)) == api.OK, permitted)
			}
		}
	}
}

// more returns sightings with another one among them.
func (r *random) more(v survey.Vessel, l []survey.Sighting) []survey.Sighting {
	tick := r.below(v.Ticks)
	out := append(slices.Clone(l), survey.Sighting{Tick: tick, Place: r.near(v, tick)})
	slices.SortStableFunc(out, func(a, b survey.Sighting) int { return a.Tick - b.Tick })
	return out
}

// P9.6: more sightings, a wider ring, a longer loss and faster animals never permit more.
func TestNeverPermitMore(t *testing.T) {
	r := random(13)
	less := map[string]int{}
	for range rounds {
		v, w := r.vessel(40), r.watch()
		l, shares, ticks := r.sightings(v, 5), r.spans(5, 20), 1+r.below(4)
		wider, longer, faster := w, w, w
		wider.Ring += r.below(40)
		longer.Loss += r.below(10)
		faster.Speed += r.below(10)
		before, is := levels(t, v, w, l), insides(t, v, w, l)
		first, e1 := survey.Window(v, w, l, shares, ticks)
		for _, x := range []struct {
			what string
			w    survey.Watch
			l    []survey.Sighting
		}{{"more sightings", w, r.more(v, l)}, {"a wider ring", wider, l}, {"a longer loss", longer, l}, {"faster animals", faster, l}} {
			still := insides(t, v, x.w, x.l)
			for tick, level := range levels(t, v, x.w, x.l) {
				if level > before[tick] || is[tick] && !still[tick] {
					t.Errorf("%s permit more at the tick %d", x.what, tick)
				}
				if level < before[tick] {
					less[x.what]++
				}
				f := fire(tick, 1+r.below(w.Soft+1))
				if survey.CheckFires(v, x.w, x.l, f) == api.OK {
					same(t, "a shot that is permitted with "+x.what, survey.CheckFires(v, w, l, f), api.OK)
				}
			}
			later, e2 := survey.Window(v, x.w, x.l, shares, ticks)
			if e2 == api.OK && (e1 != api.OK || later < first) {
				t.Errorf("%s make the window %d, before it was %d", x.what, later, first)
			}
		}
	}
	for what, count := range less {
		if count < 200 {
			t.Errorf("%s permit less at %d ticks", what, count)
		}
	}
	same(t, "what permits less", len(less), 4)
}

// P9.6: levels rise by at most one from tick to tick, from at most 1 at first, and fall to 0 alone.
func TestLevelsRiseSlowly(t *testing.T) {
	r := random(14)
	for range rounds {
		v, w := r.vessel(40), r.watch()
		before := 0
		for tick, level := range levels(t, v, w, r.sightings(v, 5)) {
			if level > before+1 || level < before && level > 0 {
				t.Errorf("the level at the tick %d is %d, before it was %d", tick, level, before)
			}
			before = level
		}
	}
}

// P9.6: in the silent spans no shot is permitted, at all other ticks one is.
func TestSilentSpans(t *testing.T) {
	r := random(15)
	for range rounds {
		v, w := r.vessel(40), r.watch()
		l := r.sightings(v, 5)
		silent, e := survey.Silent(v, w, l)
		ok(t, "Silent", e)
		for tick := range v.Ticks {
			same(t, "a shot outside of the silent spans", survey.CheckFires(v, w, l, fire(tick, 1)) == api.OK, !liesIn(tick, silent))
		}
		for i := 1; i < len(silent); i++ {
			if silent[i].From <= silent[i-1].To {
				t.Errorf("the silent spans are %v", silent)
			}
		}
	}
}

// P9.6, P10: at all ticks of a window shots of the full level are permitted, and no window is before it.
func TestWindowsPermit(t *testing.T) {
	r := random(16)
	windows := 0
	for range rounds {
		v, w := r.vessel(60), r.watch()
		l, shares, ticks := r.sightings(v, 5), r.spans(5, 20), 1+r.below(6)
		from, e := survey.Window(v, w, l, shares, ticks)
		if e != api.OK {
			same(t, "no window", e, api.ErrNone)
			continue
		}
		windows++
		for tick := from; tick < from+ticks; tick++ {
			same(t, "a shot in a window", survey.CheckFires(v, w, l, fire(tick, w.Soft+1)), api.OK)
			same(t, "a share of a window", liesIn(tick, shares), true)
		}
		for shorter := 1; shorter < ticks; shorter++ {
			sooner, e := survey.Window(v, w, l, shares, shorter)
			ok(t, "Window", e)
			if sooner > from {
				t.Errorf("the first window of %d ticks is %d, that of %d is %d", shorter, sooner, ticks, from)
			}
		}
	}
	if windows < rounds/4 {
		t.Errorf("there were %d windows", windows)
	}
}

// P9.6, P10: the diary has each tick of the vessel once; where it has shoot, a shot is permitted, and where it has animal, none is.
func TestDiaryHasEachTickOnce(t *testing.T) {
	r := random(17)
	for range rounds {
		v, w := r.vessel(60), r.watch()
		l, shares, weather := r.sightings(v, 5), r.spans(5, 20), r.spans(3, 6)
		d := diary(t, v, w, l, shares, weather)
		ok(t, "CheckEntries", survey.CheckEntries(d))
		at := 0
		for _, x := range d {
			same(t, "the first tick of an entry", x.Span.From, at)
			for ; at < x.Span.To; at++ {
				permitted := survey.CheckFires(v, w, l, fire(at, 1)) == api.OK
				if x.Cause == "shoot" && !permitted || x.Cause == "animal" && permitted {
					t.Errorf("the tick %d has the cause %s", at, x.Cause)
				}
			}
		}
		same(t, "the ticks of a diary", at, v.Ticks)
		merged, e := survey.Merged(d)
		ok(t, "Merged", e)
		same(t, "a merged diary", merged, d)
		h, e := survey.Hours(d)
		ok(t, "Hours", e)
		same(t, "the hours of a diary", h[0]+h[2]+h[3]+h[5], v.Ticks)
	}
}

// shattered returns entries of which one is split into two.
func (r *random) shattered(l []survey.Entry) []survey.Entry {
	if len(l) == 0 {
		return nil
	}
	i := r.below(len(l))
	x := l[i].Span
	if x.To-x.From < 2 {
		return l
	}
	at := x.From + 1 + r.below(x.To-x.From-1)
	return slices.Concat(l[:i], entries(entry(x.From, at, l[i].Cause), entry(at, x.To, l[i].Cause)), l[i+1:])
}

// P9.6, P10: both invoices are equal, and do not change by merging.
func TestInvoicesAreEqual(t *testing.T) {
	r := random(18)
	merged := 0
	for range rounds {
		c, lines := r.contract(30), r.results(8)
		l := r.entries(15, 9)
		if r.below(2) == 0 {
			v := r.vessel(60)
			l = diary(t, v, r.watch(), r.sightings(v, 5), r.spans(5, 20), r.spans(3, 6))
		}
		l = r.shattered(r.shattered(l))
		bill, e := survey.Bill(c, l, lines)
		ok(t, "Bill", e)
		whole, e := survey.Merged(l)
		ok(t, "Merged", e)
		if len(whole) < len(l) {
			merged++
		}
		for name, f := range bills() {
			for _, x := range [][]survey.Entry{l, whole} {
				got, e := f(c, x, lines)
				ok(t, name, e)
				same(t, name, got, bill)
				differ, e := survey.Differences(got, bill)
				ok(t, "Differences", e)
				same(t, "Differences of equal invoices", differ, []string{})
			}
		}
		same(t, "the sum of an invoice", bill.Causes[0]+bill.Causes[1]+bill.Causes[2]+bill.Causes[3]+bill.Causes[4]+bill.Causes[5]+bill.Lines, bill.Total)
	}
	if merged < rounds/2 {
		t.Errorf("%d lists of entries were merged", merged)
	}
}

// P9.6: merging keeps hours and downtime, and merged entries stay as they are.
func TestMergingKeepsHours(t *testing.T) {
	r := random(19)
	for range rounds {
		l := r.shattered(r.shattered(r.entries(15, 9)))
		whole, e := survey.Merged(l)
		ok(t, "Merged", e)
		again, e := survey.Merged(whole)
		ok(t, "Merged", e)
		same(t, "merged again", again, whole)
		same(t, "the ticks of merged entries", causesOf(whole), causesOf(l))
		before, e1 := survey.Hours(l)
		after, e2 := survey.Hours(whole)
		same(t, "the hours of merged entries", []any{after, e2}, []any{before, e1})
		x, e1 := survey.Downtime(l)
		y, e2 := survey.Downtime(whole)
		same(t, "the downtime of merged entries", []any{y, e2}, []any{x, e1})
	}
}

// P9.6: entries are parsed as they were printed, and printed as they were parsed.
func TestTextsComeBack(t *testing.T) {
	r := random(20)
	for range rounds {
		l := r.entries(64, 1+r.below(1500))
		s, e := survey.Print(l)
		ok(t, "Print", e)
		back, line, e := survey.Parse(s)
		ok(t, "Parse", e)
		same(t, "Parse", []any{back, line}, []any{l, 0})
		again, e := survey.Print(back)
		ok(t, "Print", e)
		same(t, "Print", again, s)
	}
}

// P9.6: each line is accepted or not, and more fold never refuses one.
func TestAcceptedLines(t *testing.T) {
	r := random(21)
	for range rounds {
		l := r.results(20)
		good, others, e := survey.Accepted(l)
		ok(t, "Accepted", e)
		both := append(slices.Clone(good), others...)
		slices.Sort(both)
		var all []string
		for i := range l {
			all = append(all, l[i].Line)
			l[i].Fold++
		}
		same(t, "all lines", both, all)
		more, _, e := survey.Accepted(l)
		ok(t, "Accepted", e)
		for _, line := range good {
			same(t, "a line with more fold", slices.Contains(more, line), true)
		}
	}
}
