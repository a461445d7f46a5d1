package cover_test

import (
	"math"
	"reflect"
	"slices"
	"strings"
	"testing"

	"moveout/api"
	"moveout/cover"
)

// extremes are integers of any size.
var extremes = []int{math.MinInt, -100001, -1, 0, 1, 2, 64, 1000, 10000, 100000, math.MaxInt}

func oddGrids() []cover.Grid {
	l := append(badGrids(), small(), cover.Grid{Origin: at(100000, 100000), Width: 10000, Height: 10000, Columns: 16, Rows: 16})
	for _, n := range extremes {
		l = append(l, cover.Grid{Origin: at(n, n), Width: n, Height: n, Columns: n, Rows: n})
	}
	return l
}

func oddLines() []cover.Line {
	l := goodLines()
	for _, x := range badLines() {
		l = append(l, x.l)
	}
	for _, n := range extremes {
		l = append(l,
			cover.Line{Name: "n", Start: at(n, n), Step: at(n, n), Shots: n, Near: at(n, n), Spacing: at(n, n), Channels: n, Refused: []int{n}},
			refusing(extremes...), refusing(make([]int, 100000)...), named(strings.Repeat("n", 100000)))
	}
	return l
}

func oddLists() [][]cover.Line {
	l := [][]cover.Line{nil, {}, {first()}, fleet(32), make([]cover.Line, 100000), goodLines()}
	for _, x := range badLists() {
		l = append(l, x.l)
	}
	return l
}

// someLists are lists of lines of each form.
func someLists() [][]cover.Line {
	return [][]cover.Line{nil, {first()}, {first(), first()}, fleet(33), {refusing(-1)}, {changed(func(l *cover.Line) { l.Start.X = 99950 })}}
}

func oddClasses() [][]int {
	l := [][]int{classes(), {1}, {1, 1 << 37}, extremes}
	for _, x := range badClasses() {
		l = append(l, x.l)
	}
	return l
}

func oddOffers() [][]cover.Offer {
	return [][]cover.Offer{nil, {}, offers(), auction(12), auction(13), make([]cover.Offer, 100000), {{Line: first()}}, {{Line: first(), Minutes: math.MaxInt}}, {{Line: first(), Minutes: 1}, {Line: refusing(5), Minutes: 1}}, slices.Repeat(offers(), 2)}
}

func oddNumbers() [][]int {
	l := [][]int{nil, {}, {0}, {0, 1}, {1, 0}, {2}, {0, 0}, extremes, make([]int, 8), make([]int, 256), make([]int, 100000)}
	for _, n := range extremes {
		l = append(l, []int{n}, []int{0, n}, []int{n, n})
	}
	return l
}

func oddTurns() [][][]int {
	l := [][][]int{nil, {}, {{}}, {nil, nil}, triple(), level(8, 3), {{0, 1}, {1, 0}}, {{7}}, {extremes}, slices.Repeat([][]int{extremes[:8]}, 8)}
	for _, x := range badTurns() {
		l = append(l, x.turns)
	}
	return l
}

func oddTexts() []string {
	return []string{"", "\n", " ", "\x00", "\xff\xfe", "line", "line \n", "refused 0\n", firstText, firstText + firstText, firstText + "refused 999999999\nrefused -999999999\n", strings.Repeat("\n", 1000000), strings.Repeat(" ", 1000000), strings.Repeat(firstText, 28000), firstText + strings.Repeat("refused 0\n", 90000), "line a " + strings.Repeat("999999999 ", 90000), "line a" + strings.Repeat(" -999999999", 10) + "\n", strings.Repeat("x", 3000000)}
}

func oddPoints() []api.Point {
	var l []api.Point
	for _, n := range extremes {
		l = append(l, at(n, 0), at(0, n), at(n, n), at(n, -n))
	}
	return l
}

func oddPlaces() []cover.Place {
	l := append(badPlaces(), cover.Place{})
	for _, p := range oddPoints() {
		l = append(l, between(p, p), between(p, at(0, 0)), between(at(100000, -100000), p))
	}
	return l
}

func oddSpans() []api.Span {
	var l []api.Span
	for _, n := range extremes {
		for _, m := range extremes {
			l = append(l, api.Span{From: n, To: m})
		}
	}
	return l
}

// P1: no function panics, and together with an error every other result is its zero value.
func TestOddArguments(t *testing.T) {
	combine(t, cover.CheckGrid, oddGrids())
	combine(t, cover.CheckLine, oddLines())
	combine(t, cover.CheckLines, oddLists())
	combine(t, cover.Places, oddLines())
	combine(t, cover.Bin, oddGrids(), oddPlaces())
	combine(t, cover.Class, oddClasses(), oddPlaces())
	combine(t, cover.Coverage, oddGrids(), oddClasses(), someLists())
	combine(t, cover.Coverage, oddGrids()[:2], oddClasses()[:2], oddLists())
	combine(t, cover.Fold, oddGrids(), oddClasses(), someLists())
	combine(t, cover.Gaps, oddGrids(), oddClasses(), someLists(), extremes[:4])
	combine(t, cover.Gaps, []cover.Grid{small()}, oddClasses()[:2], oddLists(), extremes)
	combine(t, cover.Feathered, oddLines(), oddPoints())
	combine(t, cover.Shifted, oddLines(), oddPoints())
	combine(t, cover.Reversed, oddLines())
	combine(t, cover.Cut, oddLines(), oddSpans())
	combine(t, cover.Order, oddTurns())
	combine(t, cover.CheckOrder, oddTurns(), oddNumbers())
	combine(t, cover.Tree, oddTurns())
	combine(t, cover.Print, oddLists())
	combine(t, cover.Parse, oddTexts())
}

// P1: no function of infills panics, and together with an error every other result is its zero value.
func TestOddInfills(t *testing.T) {
	grids := []cover.Grid{small(), {}, {Width: 1, Height: 1, Columns: 16, Rows: 16}, {Width: 100, Height: 100, Columns: math.MaxInt, Rows: math.MaxInt}}
	wants := []int{math.MinInt, 0, 3, 1000, math.MaxInt}
	for _, g := range grids {
		one := []cover.Grid{g}
		combine(t, cover.Infill, one, oddClasses()[:4], someLists(), wants, oddOffers())
		combine(t, cover.Prices, one, oddClasses()[:4], someLists(), wants, oddOffers())
	}
	few := oddGrids()
	combine(t, cover.Infill, few, oddClasses()[:1], someLists()[:2], wants[2:3], oddOffers()[2:3])
	combine(t, cover.CheckInfill, grids, oddClasses()[:2], someLists()[:2], wants[1:4], oddOffers(), oddNumbers())
	combine(t, cover.CheckPrices, grids, oddClasses()[:2], someLists()[:2], wants[1:4], oddOffers(), oddNumbers())
}

// combine calls a function with all combinations of the elements of some lists.
func combine(t *testing.T, f any, lists ...any) {
	t.Helper()
	calls := [][]reflect.Value{nil}
	for _, list := range lists {
		l := reflect.ValueOf(list)
		var longer [][]reflect.Value
		for _, args := range calls {
			for j := range l.Len() {
				longer = append(longer, append(slices.Clone(args), l.Index(j)))
			}
		}
		calls = longer
	}
	for _, args := range calls {
		out := reflect.ValueOf(f).Call(args)
		if e, is := out[len(out)-1].Interface().(api.Errno); is && e != api.OK {
			zeroBeside(t, e, out[:len(out)-1])
		}
	}
}

// zeroBeside checks that all results beside an error are zero, but for the index of Parse.
func zeroBeside(t *testing.T, e api.Errno, results []reflect.Value) {
	t.Helper()
	for i, x := range results {
		_, parsed := results[0].Interface().([]cover.Line)
		if index := parsed && i == 1; !index && !reflect.ValueOf(plain(x.Interface())).IsZero() {
			t.Errorf("a result beside the error %v is %v", e, x)
		}
	}
}

// The rule 'Memory': lines are not changed, and what is made of them shares no memory with them.
func TestMemoryOfLines(t *testing.T) {
	for i, f := range []func(l cover.Line) (cover.Line, api.Errno){
		func(l cover.Line) (cover.Line, api.Errno) { return cover.Feathered(l, api.Point{}) },
		func(l cover.Line) (cover.Line, api.Errno) { return cover.Shifted(l, api.Point{}) },
		func(l cover.Line) (cover.Line, api.Errno) { return cover.Cut(l, api.Span{From: 0, To: 8}) },
		func(l cover.Line) (cover.Line, api.Errno) { return cover.Cut(l, api.Span{From: 1, To: 7}) },
		cover.Reversed,
	} {
		whole := func() cover.Line {
			return cover.Line{Name: "w", Step: at(3, 1), Shots: 8, Channels: 1, Refused: []int{1, 4, 5}}
		}
		l := whole()
		l.Refused = slices.Grow(l.Refused, 3)
		m, e := f(l)
		ok(t, "a line", e)
		same(t, "the argument", []any{i, plain(l)}, []any{i, plain(whole())})
		want := clone(m)
		for j := range m.Refused {
			m.Refused[j] = -9
		}
		_ = append(m.Refused, -9)
		same(t, "the argument when the result is changed", []any{i, plain(l)}, []any{i, plain(whole())})
		same(t, "the place behind the refused shots", slices.Contains(l.Refused[:cap(l.Refused)], -9), false)
		again, e := f(l)
		ok(t, "a line again", e)
		same(t, "the result again", again, want)
		clear(l.Refused)
		same(t, "the result when the argument is changed", again, want)
	}
}

// The rule 'Memory' for all other arguments and results.
func TestMemoryOfOthers(t *testing.T) {
	lines, kinds, o, chosen, turns := []cover.Line{refusing(1)}, classes(), offers(), []int{0, 1, 2}, triple()
	o[0].Line.Refused = []int{0}
	for range 2 {
		c, e := cover.Coverage(small(), kinds, lines)
		ok(t, "Coverage", e)
		f, e := cover.Fold(small(), kinds, lines)
		ok(t, "Fold", e)
		g, e := cover.Gaps(small(), kinds, lines, 3)
		ok(t, "Gaps", e)
		i, _, e := cover.Infill(small(), kinds, lines, 2, o)
		ok(t, "Infill", e)
		same(t, "CheckInfill", cover.CheckInfill(small(), kinds, lines, 2, o, chosen), api.OK)
		p, e := cover.Prices(small(), kinds, lines, 2, o)
		ok(t, "Prices", e)
		n, e := cover.CheckPrices(small(), kinds, lines, 2, o, p)
		ok(t, "CheckPrices", e)
		order, _, e := cover.Order(turns)
		ok(t, "Order", e)
		_, e = cover.CheckOrder(turns, chosen)
		ok(t, "CheckOrder", e)
		pairs, _, e := cover.Tree(turns)
		ok(t, "Tree", e)
		places, e := cover.Places(lines[0])
		ok(t, "Places", e)
		same(t, "the results", []any{c, f, g, i, p, n, order, pairs, len(places)}, []any{[]int{1, 1, 0, 0}, []int{2, 0}, []int{0, 1}, []int{1}, []int{0, 20}, 40, []int{0, 1, 2}, [][2]int{{1, 2}, {0, 1}}, 2})
		for _, l := range [][]int{c, f, g, i, p, order} {
			clear(l[:cap(l)])
		}
		clear(pairs[:cap(pairs)])
		clear(places[:cap(places)])
	}
	same(t, "the lines", lines, []cover.Line{refusing(1)})
	same(t, "the classes", kinds, classes())
	want := offers()
	want[0].Line.Refused = []int{0}
	same(t, "the offers", o, want)
	same(t, "the choice", chosen, []int{0, 1, 2})
	same(t, "the turns", turns, triple())
}

// The rule 'Memory': the lines of a text share no memory with each other.
func TestMemoryOfParse(t *testing.T) {
	l, _, e := cover.Parse(firstText + "refused 0\nline b 60 50 100 0 2 -20 0 -40 0 2\nrefused 0\nrefused 1\n")
	ok(t, "Parse", e)
	_ = append(l[0].Refused, 7)
	l[0].Refused[0] = 7
	same(t, "the second line", l[1].Refused, []int{0, 1})
}

// The rule 'Determinism': the same call has the same result again.
func TestSameAgain(t *testing.T) {
	r := random(21)
	for range 30 {
		g, classes, l, offers, turns := r.grid(), r.classes(), r.lines(4), r.offers(8, 5), r.turns(6, 4)
		for _, f := range []func() ([]int, api.Errno){
			func() ([]int, api.Errno) { return cover.Coverage(g, classes, l) },
			func() ([]int, api.Errno) { l, _, e := cover.Infill(g, classes, l, 2, offers); return l, e },
			func() ([]int, api.Errno) { return cover.Prices(g, classes, l, 2, offers) },
			func() ([]int, api.Errno) { l, _, e := cover.Order(turns); return l, e },
		} {
			x, e1 := f()
			y, e2 := f()
			same(t, "a result again", y, x)
			same(t, "an error again", e2, e1)
		}
	}
}
