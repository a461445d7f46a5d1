package velocity_test

import (
	"math"
	"slices"
	"testing"

	"moveout/api"
	"moveout/velocity"
)

// P6.3: Potentials.
func TestPotentials(t *testing.T) {
	for _, x := range []struct {
		p    [][]int
		x    velocity.Limits
		want [][]int
	}{
		{[][]int{{512, 0}, {921, 921}}, limits(1, 0), [][]int{{1433, 921}, {921, 921}}},
		{panelP(), limits(1, 1), [][]int{{14, 10, 13}, {3, 9, 8}, {2, 2, 6}}},
		{panelP(), limits(0, 0), [][]int{{8, 6, 12}, {3, 5, 8}, {2, 2, 6}}},
		{panelP(), limits(1, 0), [][]int{{14, 10, 12}, {3, 9, 8}, {2, 2, 6}}},
		{panelP(), limits(0, 2), [][]int{{8, 6, 12}, {3, 5, 8}, {2, 2, 6}}},
		{panelP(), limits(16, 16), [][]int{{14, 10, 13}, {7, 9, 8}, {2, 2, 6}}},
		{[][]int{{3, 1}}, limits(1, 1), [][]int{{3, 1}}},
		{[][]int{{0}}, limits(0, 0), [][]int{{0}}},
	} {
		l, e := velocity.Potentials(x.p, x.x)
		ok(t, "Potentials", e)
		same(t, "Potentials", []any{x.x, plain(l)}, []any{x.x, x.want})
	}
}

// P6.3: CheckPotentials.
func TestCheckPotentials(t *testing.T) {
	two := [][]int{{512, 0}, {921, 921}}
	for _, x := range []struct {
		l    [][]int
		want int
		e    api.Errno
	}{
		{[][]int{{1433, 921}, {921, 921}}, 1433, api.OK}, {[][]int{{1500, 2000}, {921, 921}}, 2000, api.OK}, {[][]int{{1434, 999}, {921, 922}}, 1434, api.OK}, {[][]int{{999999999, 999999999}, {921, 922}}, 999999999, api.OK}, {[][]int{{999999999, 999999999}, {999999999, 922}}, 0, api.ErrProof},
		{nil, 0, api.ErrShape}, {[][]int{{1433, 921}}, 0, api.ErrShape}, {[][]int{{1433, 921}, {921}}, 0, api.ErrShape}, {[][]int{{1433, 921}, {921, 921, 0}}, 0, api.ErrShape}, {[][]int{{1433, 921}, {921, 921}, {0, 0}}, 0, api.ErrShape}, {[][]int{{-1, 921}, {921}}, 0, api.ErrShape}, {[][]int{{}, {921, 921}}, 0, api.ErrShape},
		{[][]int{{1433, 921}, {921, 1000000000}}, 0, api.ErrRange}, {[][]int{{-1, 921}, {921, 921}}, 0, api.ErrRange}, {[][]int{{0, 0}, {0, -1}}, 0, api.ErrRange}, {[][]int{{math.MinInt, 0}, {0, 0}}, 0, api.ErrRange}, {[][]int{{0, math.MaxInt}, {0, 0}}, 0, api.ErrRange},
		{[][]int{{1432, 921}, {921, 921}}, 0, api.ErrProof}, {[][]int{{1433, 920}, {921, 921}}, 0, api.ErrProof}, {[][]int{{1433, 921}, {920, 921}}, 0, api.ErrProof}, {[][]int{{1433, 921}, {921, 920}}, 0, api.ErrProof}, {[][]int{{1433, 921}, {921, 922}}, 0, api.ErrProof}, {[][]int{{0, 0}, {0, 0}}, 0, api.ErrProof},
	} {
		n, e := velocity.CheckPotentials(two, limits(1, 0), x.l)
		fails(t, "CheckPotentials", e, x.e, n)
		same(t, "CheckPotentials", n, x.want)
	}
}

// P6.3: CheckPotentials follows its definition, and the least potentials have nothing in excess; P7: potentials prove the best path.
func TestPotentialsByDefinition(t *testing.T) {
	r := random(5)
	proved := 0
	for range 400 {
		p, x := r.panel(1+r.below(4), 1+r.below(4), 6), r.limits(4)
		least, e := velocity.Potentials(p, x)
		ok(t, "Potentials", e)
		same(t, "the least potentials prove a bound", proves(p, x, least), true)
		best := rivalsOf(p, x)[0]
		n, e := velocity.CheckPotentials(p, x, least)
		ok(t, "CheckPotentials", e)
		same(t, "the bound of the least potentials", n, scoreOf(p, best))
		for range 10 {
			l := flat(len(p), len(p[0]))
			for i := range l {
				for row := range l[i] {
					l[i][row] = max(0, least[i][row]+r.below(9)/8*(1+r.below(9))-r.below(40)/39)
				}
			}
			n, e := velocity.CheckPotentials(p, x, l)
			if !proves(p, x, l) {
				fails(t, "CheckPotentials", e, api.ErrProof, n)
				continue
			}
			proved++
			ok(t, "CheckPotentials", e)
			same(t, "CheckPotentials", n, slices.Max(l[0]))
			same(t, "a bound is no less than the best score", n >= scoreOf(p, best), true)
		}
		for i := range least {
			for row := range least[i] {
				if least[i][row] > 0 {
					least[i][row]--
					n, e := velocity.CheckPotentials(p, x, least)
					fails(t, "CheckPotentials of less than the least ones", e, api.ErrProof, n)
					least[i][row]++
				}
			}
		}
	}
	if proved < 400 {
		t.Errorf("%d potentials proved a bound", proved)
	}
}
