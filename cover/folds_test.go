package cover_test

import (
	"slices"
	"testing"

	"moveout/api"
	"moveout/cover"
)

// P4.2: Coverage, Fold and Gaps of the examples, and of others.
func TestFolds(t *testing.T) {
	feathered := changed(func(l *cover.Line) { l.Spacing.Y = 60 })
	for _, x := range []struct {
		what           string
		g              cover.Grid
		classes        []int
		l              []cover.Line
		want           int
		coverage, fold []int
		gaps           []int
	}{
		{"a", small(), classes(), []cover.Line{first()}, 2, []int{1, 1, 1, 1}, []int{2, 2}, nil},
		{"a for one more", small(), classes(), []cover.Line{first()}, 3, []int{1, 1, 1, 1}, []int{2, 2}, []int{0, 1}},
		{"the feathered a", small(), classes(), []cover.Line{feathered}, 1, []int{1, 0, 1, 0}, []int{1, 1}, nil},
		{"a with a refused shot", small(), classes(), []cover.Line{refusing(0)}, 1, []int{0, 0, 1, 1}, []int{0, 2}, []int{0}},
		{"a with the other one refused", small(), classes(), []cover.Line{refusing(1)}, 1, []int{1, 1, 0, 0}, []int{2, 0}, []int{1}},
		{"a with all refused", small(), classes(), []cover.Line{refusing(0, 1)}, 1000, []int{0, 0, 0, 0}, []int{0, 0}, []int{0, 1}},
		{"no lines", small(), classes(), nil, 1, []int{0, 0, 0, 0}, []int{0, 0}, []int{0, 1}},
		{"two lines", small(), classes(), []cover.Line{first(), part("b", 0, 1)}, 3, []int{2, 2, 1, 1}, []int{4, 2}, []int{1}},
		{"one class", small(), []int{1000}, []cover.Line{first(), part("b", 1, 1)}, 2, []int{1, 2}, []int{1, 2}, []int{0}},
		{"three classes", small(), []int{400, 401, 3601}, []cover.Line{first()}, 2, []int{0, 1, 1, 0, 1, 1}, []int{2, 2}, nil},
		{"no place in the grid", cover.Grid{Origin: at(1000, 0), Width: 5, Height: 5, Columns: 1, Rows: 2}, []int{4000}, []cover.Line{first()}, 1, []int{0, 0}, []int{0, 0}, []int{0, 1}},
		{"places in the last row", cover.Grid{Origin: at(0, -50), Width: 100, Height: 100, Columns: 1, Rows: 2}, classes(), []cover.Line{first()}, 1, []int{0, 0, 1, 1}, []int{0, 2}, []int{0}},
	} {
		l, e := cover.Coverage(x.g, x.classes, x.l)
		ok(t, "Coverage", e)
		same(t, "Coverage of "+x.what, l, x.coverage)
		l, e = cover.Fold(x.g, x.classes, x.l)
		ok(t, "Fold", e)
		same(t, "Fold of "+x.what, l, x.fold)
		l, e = cover.Gaps(x.g, x.classes, x.l, x.want)
		ok(t, "Gaps", e)
		same(t, "Gaps of "+x.what, l, x.gaps)
	}
}

// P4.2, P5: Coverage, Fold and Gaps by the definitions.
func TestFoldsDefined(t *testing.T) {
	r := random(5)
	covered, gaps := 0, 0
	for range 300 {
		g, classes, l, want := r.grid(), r.classes(), r.lines(5), 1+r.below(6)
		c, e := cover.Coverage(g, classes, l)
		ok(t, "Coverage", e)
		same(t, "Coverage by the definition", c, coverageOf(g, classes, l))
		f, e := cover.Fold(g, classes, l)
		ok(t, "Fold", e)
		same(t, "Fold by the definition", f, foldOf(g, classes, l))
		k, e := cover.Gaps(g, classes, l, want)
		ok(t, "Gaps", e)
		same(t, "Gaps by the definition", k, gapsOf(g, classes, l, want))
		if slices.Max(f) > 1 {
			covered++
		}
		if len(k) > 0 && len(k) < len(f) {
			gaps++
		}
	}
	if covered < 100 || gaps < 50 {
		t.Errorf("%d coverages and %d lists of gaps tell something", covered, gaps)
	}
}

// P4.2: the greatest arguments.
func TestFoldsLarge(t *testing.T) {
	g := cover.Grid{Origin: at(0, 0), Width: 10000, Height: 10000, Columns: 16, Rows: 16}
	var l []cover.Line
	for _, line := range fleet(32) {
		l = append(l, cover.Line{Name: line.Name, Start: at(1, 1), Step: at(7, 9), Shots: 64, Channels: 16})
	}
	f, e := cover.Fold(g, []int{1, 2, 3, 4, 5, 6, 7, 1 << 37}, l)
	ok(t, "Fold", e)
	want := make([]int, 256)
	want[0] = 32 * 64 * 16
	same(t, "Fold of 32 lines", f, want)
	k, e := cover.Gaps(g, []int{1}, l, 1000)
	ok(t, "Gaps", e)
	same(t, "Gaps of 32 lines", k, upTo(256)[1:])
	c, e := cover.Coverage(g, []int{1, 2, 3, 4, 5, 6, 7, 8}, l)
	ok(t, "Coverage", e)
	same(t, "the length of the coverage", len(c), 2048)
}

// P4.2: the errors of Coverage, Fold and Gaps, and their order.
func TestFoldErrors(t *testing.T) {
	check := func(what string, g cover.Grid, classes []int, l []cover.Line, want api.Errno) {
		t.Helper()
		c, e := cover.Coverage(g, classes, l)
		fails(t, "Coverage: "+what, c, e, want)
		c, e = cover.Fold(g, classes, l)
		fails(t, "Fold: "+what, c, e, want)
		for _, n := range []int{1, 0} {
			c, e = cover.Gaps(g, classes, l, n)
			fails(t, "Gaps: "+what, c, e, want)
		}
	}
	twice := []cover.Line{first(), first()}
	for _, g := range badGrids() {
		check("a grid", g, classes(), nil, api.ErrRange)
		check("a grid before its classes", g, nil, twice, api.ErrRange)
	}
	for _, x := range badClasses() {
		check("classes", small(), x.l, nil, x.e)
		check("classes before lines", small(), x.l, twice, x.e)
	}
	for _, x := range badLists() {
		check(x.what, small(), classes(), x.l, x.e)
	}
	for _, n := range badWants {
		l, e := cover.Gaps(small(), classes(), nil, n)
		fails(t, "Gaps for a wanted fold that is none", l, e, api.ErrRange)
	}
}
