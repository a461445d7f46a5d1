package velocity_test

import (
	"math"
	"slices"
	"testing"

	"moveout/api"
	"moveout/velocity"
)

// panelP returns a panel with three times and rows.
func panelP() [][]int {
	return [][]int{{5, 1, 4}, {1, 3, 2}, {2, 2, 6}}
}

// P6.2: CheckPanel.
func TestCheckPanel(t *testing.T) {
	for _, p := range [][][]int{{{0}}, {{1024}}, panelP(), flat(64, 16), flat(1, 16), flat(64, 1)} {
		same(t, "CheckPanel", velocity.CheckPanel(p), api.OK)
	}
	for _, x := range badPanels() {
		same(t, "CheckPanel of "+x.what, velocity.CheckPanel(x.p), x.e)
	}
}

// P6.2: CheckPath.
func TestCheckPath(t *testing.T) {
	for _, x := range []struct {
		x    velocity.Limits
		path []int
		want int
		e    api.Errno
	}{
		{limits(1, 1), ints(0, 1, 2), 14, api.OK}, {limits(1, 0), ints(0, 0, 1), 8, api.OK}, {limits(0, 0), ints(2, 2, 2), 12, api.OK}, {limits(0, 1), ints(2, 1, 0), 9, api.OK}, {limits(2, 2), ints(0, 2, 0), 9, api.OK}, {limits(16, 16), ints(2, 0, 2), 11, api.OK},
		{limits(1, 0), ints(0, 1), 0, api.ErrShape}, {limits(1, 0), nil, 0, api.ErrShape}, {limits(1, 0), ints(0, 1, 1, 1), 0, api.ErrShape}, {limits(1, 0), ints(9, 9), 0, api.ErrShape},
		{limits(1, 0), ints(0, 1, 3), 0, api.ErrUnknown}, {limits(1, 0), ints(3, 1, 0), 0, api.ErrUnknown}, {limits(1, 0), ints(-1, 0, 0), 0, api.ErrUnknown}, {limits(16, 16), ints(0, math.MinInt, 0), 0, api.ErrUnknown}, {limits(16, 16), ints(0, math.MaxInt, 0), 0, api.ErrUnknown},
		{limits(1, 0), ints(1, 0, 1), 0, api.ErrRule}, {limits(0, 0), ints(0, 0, 1), 0, api.ErrRule}, {limits(1, 1), ints(0, 2, 2), 0, api.ErrRule}, {limits(2, 1), ints(0, 2, 0), 0, api.ErrRule},
		{limits(1, 0), ints(0, 2, 3), 0, api.ErrRule}, {limits(1, 0), ints(0, 3, 0), 0, api.ErrUnknown},
	} {
		n, e := velocity.CheckPath(panelP(), x.x, x.path)
		fails(t, "CheckPath", e, x.e, n)
		same(t, "CheckPath", n, x.want)
	}
}

// P6.2: Best.
func TestBest(t *testing.T) {
	for _, x := range []struct {
		p    [][]int
		x    velocity.Limits
		path []int
		want int
	}{
		{panelP(), limits(1, 1), ints(0, 1, 2), 14}, {panelP(), limits(0, 0), ints(2, 2, 2), 12}, {panelP(), limits(16, 16), ints(0, 1, 2), 14}, {panelP(), limits(0, 1), ints(2, 2, 2), 12}, {panelP(), limits(2, 0), ints(0, 1, 2), 14},
		{[][]int{{512, 0}, {921, 921}}, limits(0, 0), ints(0, 0), 1433}, {[][]int{{512, 0}, {921, 921}}, limits(1, 0), ints(0, 0), 1433}, {[][]int{{1, 7, 7, 3}}, limits(0, 0), ints(1), 7}, {[][]int{{0}}, limits(16, 16), ints(0), 0},
		// of paths with the same score the first one, at the first time at which they differ
		{[][]int{{1, 2}, {2, 1}}, limits(0, 0), ints(0, 0), 3}, {[][]int{{1, 1}, {0, 0}, {1, 1}}, limits(1, 1), ints(0, 0, 0), 2}, {[][]int{{3, 5}, {5, 3}, {0, 2}}, limits(2, 0), ints(0, 0, 1), 10}, {flat(64, 16), limits(16, 16), make([]int, 64), 0},
	} {
		path, n, e := velocity.Best(x.p, x.x)
		ok(t, "Best", e)
		same(t, "Best", []any{path, n}, []any{x.path, x.want})
	}
	full := flat(64, 16)
	for i := range full {
		full[i] = slices.Repeat(ints(1024), 16)
	}
	path, n, e := velocity.Best(full, limits(16, 16))
	ok(t, "Best", e)
	same(t, "Best with the greatest scores", []any{path, n}, []any{make([]int, 64), 65536})
}

// P6.2: Rivals.
func TestRivals(t *testing.T) {
	two := [][]int{{512, 0}, {921, 921}}
	for _, x := range []struct {
		p    [][]int
		x    velocity.Limits
		many int
		want [][]int
	}{
		{two, limits(1, 0), 8, [][]int{{0, 0}, {0, 1}, {1, 1}}}, {two, limits(1, 0), 3, [][]int{{0, 0}, {0, 1}, {1, 1}}}, {two, limits(1, 0), 2, [][]int{{0, 0}, {0, 1}}}, {two, limits(1, 0), 1, [][]int{{0, 0}}}, {two, limits(0, 0), 8, [][]int{{0, 0}, {1, 1}}}, {two, limits(0, 1), 8, [][]int{{0, 0}, {1, 0}, {1, 1}}},
		{panelP(), limits(1, 1), 3, [][]int{{0, 1, 2}, {2, 1, 2}, {2, 2, 2}}}, {[][]int{{1, 3, 2, 3}}, limits(0, 0), 8, [][]int{{1}, {3}, {2}, {0}}}, {[][]int{{7}, {8}}, limits(16, 16), 8, [][]int{{0, 0}}},
	} {
		l, e := velocity.Rivals(x.p, x.x, x.many)
		ok(t, "Rivals", e)
		same(t, "Rivals", l, x.want)
	}
}

// P6.2: CheckPath, Best and Rivals follow their definitions; P7: the best path has the greatest score of all that keep the limits.
func TestPathsByDefinition(t *testing.T) {
	r := random(4)
	for range 400 {
		times, rows := 1+r.below(4), 1+r.below(4)
		p, x := r.panel(times, rows, 1+r.below(6)), r.limits(4)
		all := rivalsOf(p, x)
		path, n, e := velocity.Best(p, x)
		ok(t, "Best", e)
		same(t, "Best", []any{path, n}, []any{all[0], scoreOf(p, all[0])})
		for many := 1; many <= 8; many++ {
			l, e := velocity.Rivals(p, x, many)
			ok(t, "Rivals", e)
			same(t, "Rivals", l, all[:min(many, len(all))])
		}
		for _, path := range pathsOf(times, rows, limits(16, 16)) {
			n, e := velocity.CheckPath(p, x, path)
			if keeps(x, path) {
				ok(t, "CheckPath", e)
				same(t, "CheckPath", n, scoreOf(p, path))
				continue
			}
			fails(t, "CheckPath", e, api.ErrRule, n)
		}
	}
}

// P6.2, P6.3: the errors of panels, and of limits.
func TestPathErrors(t *testing.T) {
	for _, x := range badPanels() {
		for _, y := range []velocity.Limits{{}, {Up: -1}} {
			n, e := velocity.CheckPath(x.p, y, nil)
			fails(t, "CheckPath of "+x.what, e, x.e, n)
			path, n, e := velocity.Best(x.p, y)
			fails(t, "Best of "+x.what, e, x.e, path, n)
			l, e := velocity.Rivals(x.p, y, 0)
			fails(t, "Rivals of "+x.what, e, x.e, l)
			l, e = velocity.Potentials(x.p, y)
			fails(t, "Potentials of "+x.what, e, x.e, l)
			n, e = velocity.CheckPotentials(x.p, y, nil)
			fails(t, "CheckPotentials of "+x.what, e, x.e, n)
		}
	}
	for _, x := range badLimits {
		n, e := velocity.CheckPath(panelP(), x, nil)
		fails(t, "CheckPath by bad limits", e, api.ErrRange, n)
		path, n, e := velocity.Best(panelP(), x)
		fails(t, "Best by bad limits", e, api.ErrRange, path, n)
		l, e := velocity.Rivals(panelP(), x, 1)
		fails(t, "Rivals by bad limits", e, api.ErrRange, l)
		l, e = velocity.Potentials(panelP(), x)
		fails(t, "Potentials by bad limits", e, api.ErrRange, l)
		n, e = velocity.CheckPotentials(panelP(), x, nil)
		fails(t, "CheckPotentials by bad limits", e, api.ErrRange, n)
	}
	for _, many := range []int{0, -1, 9, math.MinInt, math.MaxInt} {
		l, e := velocity.Rivals(panelP(), limits(1, 1), many)
		fails(t, "Rivals of a bad number", e, api.ErrRange, l)
	}
}
