package cover_test

import (
	"math"
	"testing"

	"moveout/api"
	"moveout/cover"
)

// P4.3: Feathered.
func TestFeathered(t *testing.T) {
	for _, x := range []struct {
		by, want api.Point
	}{{at(0, 60), at(-40, 60)}, {at(0, 0), at(-40, 0)}, {at(-9960, 10000), at(-10000, 10000)}, {at(10000, -10000), at(9960, -10000)}} {
		l, e := cover.Feathered(refusing(1), x.by)
		ok(t, "Feathered", e)
		same(t, "Feathered", l, changed(func(l *cover.Line) { l.Spacing, l.Refused = x.want, []int{1} }))
	}
	for _, x := range []struct {
		what string
		l    cover.Line
		by   api.Point
	}{
		{"a spacing", first(), at(-9961, 0)},
		{"a spacing along Y", changed(func(l *cover.Line) { l.Spacing.Y = 1 }), at(0, 10000)},
		{"a spacing of a line with one channel", changed(func(l *cover.Line) { l.Channels, l.Spacing.Y = 1, -1 }), at(0, -10000)},
		{"a receiver", changed(func(l *cover.Line) { l.Start.Y = 99950 }), at(0, 51)},
		{"a receiver on the other side", changed(func(l *cover.Line) { l.Start.X = -99900 }), at(-41, 0)},
		{"a receiver of a refused shot", changed(func(l *cover.Line) { l.Start.Y, l.Step, l.Refused = 99850, at(0, 100), []int{1} }), at(0, 51)},
	} {
		l, e := cover.Feathered(x.l, x.by)
		fails(t, "Feathered, too large: "+x.what, l, e, api.ErrLarge)
	}
	l, e := cover.Feathered(changed(func(l *cover.Line) { l.Start.Y = 99950 }), at(0, 50))
	ok(t, "Feathered to the edge", e)
	same(t, "Feathered to the edge", l.Spacing, at(-40, 50))
	checkChange(t, "Feathered", cover.Feathered, 10000)
}

// P4.3: Shifted.
func TestShifted(t *testing.T) {
	for _, x := range []struct {
		by, want api.Point
	}{{at(-7, 3), at(53, 53)}, {at(0, 0), at(60, 50)}, {at(99840, 99950), at(99900, 100000)}, {at(-100000, -100000), at(-99940, -99950)}} {
		l, e := cover.Shifted(refusing(0), x.by)
		ok(t, "Shifted", e)
		same(t, "Shifted", l, changed(func(l *cover.Line) { l.Start, l.Refused = x.want, []int{0} }))
	}
	for _, x := range []struct {
		what string
		l    cover.Line
		by   api.Point
	}{
		{"a start", changed(func(l *cover.Line) { l.Shots = 1 }), at(99941, 0)},
		{"a start along Y", first(), at(0, 99951)},
		{"a start on the other side", changed(func(l *cover.Line) { l.Start.Y = -1 }), at(0, -100000)},
		{"a source", first(), at(99841, 0)},
		{"a refused source", refusing(1), at(99841, 0)},
		{"a receiver", changed(func(l *cover.Line) { l.Start.X = 0 }), at(-99941, 0)},
	} {
		l, e := cover.Shifted(x.l, x.by)
		fails(t, "Shifted, too large: "+x.what, l, e, api.ErrLarge)
	}
	checkChange(t, "Shifted", cover.Shifted, 100000)
}

// checkChange checks the errors of the line and of the vector of a change.
func checkChange(t *testing.T, what string, change func(l cover.Line, by api.Point) (cover.Line, api.Errno), most int) {
	t.Helper()
	for _, n := range []int{math.MinInt, -most - 1, most + 1, math.MaxInt} {
		for _, by := range []api.Point{at(n, 0), at(0, n), at(n, n)} {
			l, e := change(first(), by)
			fails(t, what+" by a vector that is none", l, e, api.ErrRange)
		}
	}
	for _, x := range badLines() {
		for _, by := range []api.Point{{}, at(most+1, 0)} {
			l, e := change(x.l, by)
			fails(t, what+": "+x.what, l, e, x.e)
		}
	}
}

// P4.3: Reversed.
func TestReversed(t *testing.T) {
	backward := func(refused ...int) cover.Line {
		return changed(func(l *cover.Line) { l.Start, l.Step, l.Refused = at(160, 50), at(-100, 0), refused })
	}
	long := cover.Line{Name: "long", Start: at(-5, 7), Step: at(10, -3), Shots: 64, Near: at(1, 2), Spacing: at(3, 4), Channels: 16, Refused: []int{0, 1, 5, 62}}
	for _, x := range []struct{ l, want cover.Line }{
		{first(), backward()}, {refusing(0), backward(1)}, {refusing(1), backward(0)}, {refusing(0, 1), backward(0, 1)},
		{part("b", 0, 1), changed(func(l *cover.Line) { l.Name, l.Shots, l.Step = "b", 1, at(-100, 0) })},
		{long, cover.Line{Name: "long", Start: at(625, -182), Step: at(-10, 3), Shots: 64, Near: at(1, 2), Spacing: at(3, 4), Channels: 16, Refused: []int{1, 58, 62, 63}}},
	} {
		l, e := cover.Reversed(x.l)
		ok(t, "Reversed", e)
		same(t, "Reversed", l, x.want)
	}
	for _, x := range badLines() {
		l, e := cover.Reversed(x.l)
		fails(t, "Reversed: "+x.what, l, e, x.e)
	}
}

// P4.3: Cut.
func TestCut(t *testing.T) {
	long := func(from, shots int, refused ...int) cover.Line {
		return cover.Line{Name: "long", Start: at(-5+10*from, 7-3*from), Step: at(10, -3), Shots: shots, Near: at(1, 2), Spacing: at(3, 4), Channels: 16, Refused: refused}
	}
	for _, x := range []struct {
		l, want  cover.Line
		from, to int
	}{
		{first(), part("a", 1, 1), 1, 2}, {first(), part("a", 0, 1), 0, 1}, {first(), first(), 0, 2},
		{long(0, 64, 0, 1, 5, 62), long(0, 64, 0, 1, 5, 62), 0, 64}, {long(0, 64, 0, 1, 5, 62), long(1, 63, 0, 4, 61), 1, 64}, {long(0, 64, 0, 1, 5, 62), long(2, 3), 2, 5}, {long(0, 64, 0, 1, 5, 62), long(2, 4, 3), 2, 6}, {long(0, 64, 0, 1, 5, 62), long(5, 1, 0), 5, 6}, {long(0, 64, 0, 1, 5, 62), long(63, 1), 63, 64},
	} {
		l, e := cover.Cut(x.l, api.Span{From: x.from, To: x.to})
		ok(t, "Cut", e)
		same(t, "Cut", l, x.want)
	}
	spans := []api.Span{{}, {From: -1, To: 1}, {From: 1, To: 1}, {From: 2, To: 1}, {From: 0, To: 3}, {From: 2, To: 2}, {From: 2, To: 3}, {From: math.MinInt, To: math.MaxInt}, {From: math.MaxInt, To: math.MinInt}, {From: 0, To: math.MaxInt}, {From: math.MinInt, To: 1}, {From: -2, To: -1}}
	for _, s := range spans {
		l, e := cover.Cut(first(), s)
		fails(t, "Cut with a span that is none", l, e, api.ErrSpan)
	}
	for _, x := range badLines() {
		for _, s := range []api.Span{{From: 0, To: 1}, {}} {
			l, e := cover.Cut(x.l, s)
			fails(t, "Cut: "+x.what, l, e, x.e)
		}
	}
}
