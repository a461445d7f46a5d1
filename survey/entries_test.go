package survey_test

import (
	"slices"
	"testing"

	"moveout/api"
	"moveout/survey"
)

// P9.3: Causes.
func TestCauses(t *testing.T) {
	same(t, "Causes", survey.Causes(), []string{"shoot", "turn", "weather", "animal", "gear", "share"})
}

// P9.3: CheckEntries.
func TestCheckEntries(t *testing.T) {
	for _, l := range [][]survey.Entry{
		nil, {}, day(), each(64),
		entries(entry(0, 100000, "gear")),
		entries(entry(99999, 100000, "share")),
		entries(entry(0, 1, "turn"), entry(1, 2, "turn"), entry(1000, 2000, "turn")),
	} {
		same(t, "CheckEntries", survey.CheckEntries(l), api.OK)
	}
	for _, x := range badEntries() {
		same(t, "CheckEntries of "+x.what, survey.CheckEntries(x.x), x.e)
	}
}

// P9.3: Merged.
func TestMerged(t *testing.T) {
	for _, x := range []struct {
		what    string
		l, want []survey.Entry
	}{
		{"no entries", nil, nil},
		{"one entry", entries(entry(3, 5, "gear")), entries(entry(3, 5, "gear"))},
		{"a day", day(), day()},
		{"two that touch", entries(entry(0, 2, "turn"), entry(2, 3, "turn")), entries(entry(0, 3, "turn"))},
		{"two with a tick between", entries(entry(0, 2, "turn"), entry(3, 4, "turn")), entries(entry(0, 2, "turn"), entry(3, 4, "turn"))},
		{"two with different causes", entries(entry(0, 2, "turn"), entry(2, 4, "gear")), entries(entry(0, 2, "turn"), entry(2, 4, "gear"))},
		{"two with another cause between", entries(entry(0, 2, "turn"), entry(2, 3, "gear"), entry(3, 4, "turn")), entries(entry(0, 2, "turn"), entry(2, 3, "gear"), entry(3, 4, "turn"))},
		{"three that touch, and more", entries(entry(1, 2, "gear"), entry(2, 4, "turn"), entry(4, 5, "turn"), entry(5, 9, "turn"), entry(10, 11, "turn"), entry(11, 12, "turn")), entries(entry(1, 2, "gear"), entry(2, 9, "turn"), entry(10, 12, "turn"))},
	} {
		got, e := survey.Merged(x.l)
		ok(t, "Merged", e)
		same(t, "Merged: "+x.what, got, x.want)
	}
	l := each(64)
	for i := range l {
		l[i].Cause = "weather"
	}
	got, e := survey.Merged(l)
	ok(t, "Merged", e)
	same(t, "Merged: 64 that touch", got, entries(entry(0, 64, "weather")))
}

// P9.3: Hours and Downtime.
func TestHours(t *testing.T) {
	for _, x := range []struct {
		what string
		l    []survey.Entry
		h    [6]int
		down api.Ratio
	}{
		{"example 4", day(), [6]int{3, 0, 1, 8, 0, 0}, api.Ratio{Num: 3, Den: 4}},
		{"all causes", each(6), [6]int{1, 1, 1, 1, 1, 1}, api.Ratio{Num: 2, Den: 3}},
		{"no downtime", entries(entry(5, 9, "shoot"), entry(20, 26, "turn")), [6]int{4, 6, 0, 0, 0, 0}, api.Ratio{Num: 0, Den: 1}},
		{"turns alone", entries(entry(5, 9, "turn")), [6]int{0, 4, 0, 0, 0, 0}, api.Ratio{Num: 0, Den: 1}},
		{"downtime alone", entries(entry(0, 3, "weather"), entry(3, 5, "gear"), entry(8, 9, "share")), [6]int{0, 0, 3, 0, 2, 1}, api.Ratio{Num: 1, Den: 1}},
		{"a cause twice", entries(entry(0, 3, "gear"), entry(3, 10, "shoot"), entry(11, 13, "gear")), [6]int{7, 0, 0, 0, 5, 0}, api.Ratio{Num: 5, Den: 12}},
		{"the longest entries", entries(entry(0, 99999, "animal"), entry(99999, 100000, "turn")), [6]int{0, 1, 0, 99999, 0, 0}, api.Ratio{Num: 99999, Den: 100000}},
	} {
		h, e := survey.Hours(x.l)
		ok(t, "Hours", e)
		same(t, "Hours: "+x.what, h, x.h)
		down, e := survey.Downtime(x.l)
		ok(t, "Downtime", e)
		same(t, "Downtime: "+x.what, down, x.down)
	}
}

// P9.3: Hours and Downtime of no entries.
func TestNoHours(t *testing.T) {
	for _, l := range [][]survey.Entry{nil, {}} {
		h, e := survey.Hours(l)
		ok(t, "Hours", e)
		same(t, "Hours of no entries", h, [6]int{})
		down, e := survey.Downtime(l)
		fails(t, "Downtime of no entries", e, api.ErrEmpty, down)
	}
}

// P9.3: the errors of Merged, Hours and Downtime.
func TestEntriesErrors(t *testing.T) {
	for _, x := range badEntries() {
		l, e := survey.Merged(x.x)
		fails(t, "Merged of "+x.what, e, x.e, l)
		h, e := survey.Hours(x.x)
		fails(t, "Hours of "+x.what, e, x.e, h)
		down, e := survey.Downtime(x.x)
		fails(t, "Downtime of "+x.what, e, x.e, down)
	}
}

// P9.3: Merged, Hours and Downtime are what the definitions say.
func TestRandomEntries(t *testing.T) {
	r := random(3)
	merged := 0
	for range 1500 {
		l := r.entries(20, 8)
		if r.below(2) == 0 {
			for i := range l {
				l[i].Cause = survey.Causes()[r.below(2)]
			}
		}
		got, e := survey.Merged(l)
		ok(t, "Merged", e)
		same(t, "Merged", got, mergedOf(slices.Clone(l)))
		if len(got) < len(l) {
			merged++
		}
		h, e := survey.Hours(l)
		ok(t, "Hours", e)
		same(t, "Hours", h, hoursOf(l))
		if len(l) == 0 {
			continue
		}
		down, e := survey.Downtime(l)
		ok(t, "Downtime", e)
		same(t, "Downtime", down, downtimeOf(l))
	}
	if merged < 500 {
		t.Errorf("%d lists were merged", merged)
	}
}
