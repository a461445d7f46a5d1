package cover_test

import (
	"slices"
	"strings"
	"testing"

	"moveout/api"
	"moveout/cover"
)

// P4.1: CheckGrid.
func TestCheckGrid(t *testing.T) {
	for _, g := range []cover.Grid{
		small(), {Width: 1, Height: 1, Columns: 1, Rows: 1},
		{Origin: at(100000, 100000), Width: 10000, Height: 10000, Columns: 16, Rows: 16},
		{Origin: at(-100000, -100000), Width: 10000, Height: 1, Columns: 1, Rows: 16},
	} {
		same(t, "CheckGrid", cover.CheckGrid(g), api.OK)
	}
	for _, g := range badGrids() {
		same(t, "CheckGrid of a grid that is none", cover.CheckGrid(g), api.ErrRange)
	}
}

// goodLines returns lines at the limits.
func goodLines() []cover.Line {
	return []cover.Line{
		first(), refusing(0), refusing(1), refusing(0, 1), named("A_9"), named(strings.Repeat("z", 24)),
		changed(func(l *cover.Line) { l.Shots, l.Step, l.Refused = 64, at(1000, -1000), upTo(64) }),
		changed(func(l *cover.Line) { l.Channels, l.Spacing = 16, at(100, -100) }),
		changed(func(l *cover.Line) {
			l.Start, l.Shots, l.Step = at(-100000, -100000), 21, at(10000, 10000)
			l.Near, l.Spacing = at(0, 0), at(0, 0)
		}),
		changed(func(l *cover.Line) { l.Start.X = 99900 }),
		changed(func(l *cover.Line) { l.Start, l.Step = at(-99940, 100000), at(0, 0) }),
		changed(func(l *cover.Line) { l.Near, l.Spacing = at(10000, -10000), at(-10000, 10000) }),
		changed(func(l *cover.Line) {
			l.Near, l.Spacing, l.Step = at(-10000, 10000), at(10000, -10000), at(-10000, -10000)
		}),
		// with one shot and one channel the step and the spacing lead to nothing
		{Name: "edge", Start: at(100000, -100000), Step: at(10000, -10000), Shots: 1, Spacing: at(10000, -10000), Channels: 1},
		{Name: "edge", Start: at(90000, -90000), Shots: 1, Near: at(10000, -10000), Channels: 1, Refused: []int{0}},
	}
}

// P4.1: CheckLine.
func TestCheckLine(t *testing.T) {
	for _, l := range goodLines() {
		same(t, "CheckLine of a line at the limits", []any{l, cover.CheckLine(l)}, []any{l, api.OK})
	}
	for _, x := range badLines() {
		same(t, "CheckLine: "+x.what, cover.CheckLine(x.l), x.e)
	}
}

// P4.1: CheckLine asks the places of all shots and channels.
func TestCheckLineFar(t *testing.T) {
	r := random(1)
	count := map[api.Errno]int{}
	for range 500 {
		l := r.line("far")
		l.Start = at([]int{-99900, 0, 99900}[r.below(3)]+r.integer(100), []int{-99900, 0, 99900}[r.below(3)]+r.integer(100))
		want := api.OK
		all := clone(l)
		all.Refused = nil
		for _, p := range placesOf(all) {
			if !isPoint(p.Source) || !isPoint(p.Receiver) {
				want = api.ErrLarge
			}
		}
		if e := cover.CheckLine(l); e != want {
			t.Errorf("CheckLine of %v: got %d, want %d", l, e, want)
		}
		count[want]++
	}
	if count[api.OK] < 50 || count[api.ErrLarge] < 50 {
		t.Errorf("the results were seen %v times", count)
	}
}

// P4.1: CheckLines.
func TestCheckLines(t *testing.T) {
	for _, l := range [][]cover.Line{nil, {}, {first()}, {first(), named("b")}, {named("a"), named("A")}, fleet(32)} {
		same(t, "CheckLines", cover.CheckLines(l), api.OK)
	}
	for _, x := range badLists() {
		same(t, "CheckLines: "+x.what, cover.CheckLines(x.l), x.e)
	}
}

// P4.1: Places.
func TestPlaces(t *testing.T) {
	zero := []cover.Place{between(at(60, 50), at(40, 50)), between(at(60, 50), at(0, 50))}
	one := []cover.Place{between(at(160, 50), at(140, 50)), between(at(160, 50), at(100, 50))}
	for _, x := range []struct {
		l    cover.Line
		want []cover.Place
	}{
		{first(), slices.Concat(zero, one)}, {refusing(0), one}, {refusing(1), zero}, {refusing(0, 1), nil},
		{point("p", at(-3, 4), 1), []cover.Place{between(at(-3, 4), at(-3, 4))}},
	} {
		l, e := cover.Places(x.l)
		ok(t, "Places", e)
		same(t, "Places", l, x.want)
	}
	for _, l := range goodLines() {
		p, e := cover.Places(l)
		ok(t, "Places of a line at the limits", e)
		same(t, "Places of a line at the limits", p, placesOf(l))
	}
	r := random(2)
	for range 200 {
		l := r.line("random")
		p, e := cover.Places(l)
		ok(t, "Places", e)
		same(t, "Places by the definition", p, placesOf(l))
	}
	for _, x := range badLines() {
		l, e := cover.Places(x.l)
		fails(t, "Places: "+x.what, l, e, x.e)
	}
}

// P4.1: Bin.
func TestBin(t *testing.T) {
	g := cover.Grid{Origin: at(-30, 10), Width: 20, Height: 5, Columns: 3, Rows: 2}
	for _, x := range []struct {
		g    cover.Grid
		p    cover.Place
		want int
	}{
		{small(), between(at(60, 50), at(40, 50)), 0}, {small(), between(at(160, 50), at(100, 50)), 1},
		{small(), between(at(199, 0), at(1, 0)), 1}, {small(), between(at(199, 0), at(0, 0)), 0},
		{small(), between(at(200, 0), at(199, 0)), 1}, {small(), between(at(200, 0), at(200, 0)), -1},
		{small(), between(at(0, 0), at(0, 0)), 0}, {small(), between(at(-1, 0), at(0, 0)), -1}, {small(), between(at(1, 0), at(-1, 0)), 0},
		{small(), between(at(0, 0), at(0, -1)), -1}, {small(), between(at(0, 100), at(0, 99)), 0}, {small(), between(at(0, 100), at(0, 100)), -1},
		{g, between(at(-30, 10), at(-30, 10)), 0}, {g, between(at(-30, 10), at(-31, 10)), -1}, {g, between(at(-30, 10), at(-30, 9)), -1},
		{g, between(at(-10, 10), at(-11, 10)), 0}, {g, between(at(-10, 10), at(-10, 10)), 1}, {g, between(at(10, 10), at(9, 10)), 1}, {g, between(at(10, 10), at(10, 10)), 2},
		{g, between(at(29, 14), at(30, 14)), 2}, {g, between(at(30, 14), at(30, 14)), -1}, {g, between(at(-30, 14), at(-30, 15)), 0}, {g, between(at(-30, 15), at(-30, 15)), 3},
		{g, between(at(0, 17), at(0, 18)), 4}, {g, between(at(29, 19), at(30, 20)), 5}, {g, between(at(29, 20), at(29, 20)), -1},
		// not in the grid by one coordinate alone
		{g, between(at(-31, 17), at(-31, 17)), -1}, {g, between(at(30, 17), at(30, 17)), -1},
		{cover.Grid{Origin: at(-100000, -100000), Width: 10000, Height: 10000, Columns: 16, Rows: 16}, between(at(59999, 59999), at(59999, 60000)), 255},
		{cover.Grid{Origin: at(100000, 100000), Width: 1, Height: 1, Columns: 16, Rows: 16}, between(at(100000, 100000), at(100000, 100000)), 0},
		{cover.Grid{Origin: at(100000, 100000), Width: 1, Height: 1, Columns: 16, Rows: 16}, between(at(-100000, -100000), at(-100000, -100000)), -1},
	} {
		bin, e := cover.Bin(x.g, x.p)
		ok(t, "Bin", e)
		same(t, "Bin", []any{x.g, x.p, bin}, []any{x.g, x.p, x.want})
	}
}

// P4.1: Bin by the definition.
func TestBinDefined(t *testing.T) {
	r := random(3)
	seen := map[bool]int{}
	for range 3000 {
		g := r.grid()
		p := between(r.point(300), r.point(300))
		bin, e := cover.Bin(g, p)
		ok(t, "Bin", e)
		same(t, "Bin by the definition", []any{g, p, bin}, []any{g, p, binOf(g, p)})
		seen[bin < 0]++
	}
	if seen[true] < 100 || seen[false] < 100 {
		t.Errorf("places outside and inside were seen %v times", seen)
	}
}

// P4.1: the errors of Bin.
func TestBinErrors(t *testing.T) {
	for _, g := range badGrids() {
		bin, e := cover.Bin(g, between(at(0, 0), at(0, 0)))
		fails(t, "Bin in a grid that is none", bin, e, api.ErrRange)
	}
	for _, p := range badPlaces() {
		bin, e := cover.Bin(small(), p)
		fails(t, "Bin of a place that is none", bin, e, api.ErrRange)
	}
}

// P4.1: Class.
func TestClass(t *testing.T) {
	side := between(at(0, 0), at(-3, 4))
	whole := between(at(-100000, 100000), at(100000, -100000))
	for _, x := range []struct {
		l    []int
		p    cover.Place
		want int
	}{
		{classes(), between(at(60, 50), at(40, 50)), 0}, {classes(), between(at(60, 50), at(0, 50)), 1}, {classes(), between(at(60, 50), at(0, 110)), -1},
		{[]int{25}, side, -1}, {[]int{26}, side, 0}, {[]int{25, 26}, side, 1}, {[]int{24, 25, 26, 27}, side, 2}, {[]int{1, 2, 3, 4, 5, 6, 7, 26}, side, 7}, {[]int{1, 2, 3, 4, 5, 6, 7, 8}, side, -1},
		{[]int{1}, between(at(7, 7), at(7, 7)), 0}, {[]int{1}, between(at(7, 7), at(7, 8)), -1},
		{[]int{80000000000}, whole, -1}, {[]int{80000000000, 80000000001}, whole, 1}, {[]int{1 << 37}, whole, 0},
	} {
		class, e := cover.Class(x.l, x.p)
		ok(t, "Class", e)
		same(t, "Class", []any{x.l, x.p, class}, []any{x.l, x.p, x.want})
	}
	for _, x := range badClasses() {
		class, e := cover.Class(x.l, side)
		fails(t, "Class", class, e, x.e)
		class, e = cover.Class(x.l, badPlaces()[0])
		fails(t, "Class before its place", class, e, x.e)
	}
	for _, p := range badPlaces() {
		class, e := cover.Class(classes(), p)
		fails(t, "Class of a place that is none", class, e, api.ErrRange)
	}
}

// P4.1: Class by the definition.
func TestClassDefined(t *testing.T) {
	r := random(4)
	for range 1000 {
		l, p := r.classes(), between(r.point(60), r.point(60))
		class, e := cover.Class(l, p)
		ok(t, "Class", e)
		same(t, "Class by the definition", []any{l, p, class}, []any{l, p, classOf(l, p)})
	}
}
