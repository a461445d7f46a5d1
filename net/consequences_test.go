package net_test

import (
	"slices"
	"testing"

	"moveout/api"
	"moveout/net"
)

// rounds is how many random networks, streamers or movers a consequence is tried with.
const rounds = 150

// P2.6, P3: a placing that keeps all ranges is in the narrowed boxes, places are, too, and a narrowed network is not narrowed any further.
func TestNarrowedHolds(t *testing.T) {
	r := random(11)
	kept := 0
	for range rounds {
		n := r.network()
		narrow, e := net.Narrow(n)
		if e == api.OK {
			again, e := net.Narrow(narrow)
			ok(t, "Narrow again", e)
			same(t, "Narrow again", again, narrow)
		}
		for _, placing := range placingsOf(n, 2) {
			if len(unkeptBy(n, placing)) > 0 {
				continue
			}
			kept++
			ok(t, "Narrow of a network with a placing", e)
			for i, p := range placing {
				if !inside(p, narrow.Bodies[i].Box) {
					t.Errorf("the place %v of the body %d of %v is not in %v", p, i, n, narrow.Bodies[i].Box)
				}
			}
		}
		for i := range n.Bodies {
			l, places := net.Places(n, i, 2)
			ok(t, "Places", places)
			for _, p := range l {
				same(t, "a place in the narrowed box", inside(p, narrow.Bodies[i].Box), true)
			}
		}
	}
	if kept == 0 {
		t.Error("no placing keeps all ranges")
	}
}

// P2.6, P3: without the bad ranges there is a placing, and without fewer there is none.
func TestBadIsFewest(t *testing.T) {
	r := random(12)
	for range rounds {
		n := r.network()
		bad, e := net.Bad(n, 3)
		if e == api.ErrInfeasible {
			continue
		}
		ok(t, "Bad", e)
		rest, e := net.Without(n, bad)
		ok(t, "Without the bad ranges", e)
		l, e := net.Places(rest, 0, 3)
		ok(t, "Places without the bad ranges", e)
		same(t, "Places without the bad ranges", len(l) > 0, true)
		for size := range len(bad) {
			for _, fewer := range subsets(len(n.Ranges), size) {
				rest, e := net.Without(n, fewer)
				ok(t, "Without fewer", e)
				l, e := net.Places(rest, 0, 3)
				ok(t, "Places without fewer", e)
				same(t, "Places without fewer", l, []api.Point{})
			}
		}
	}
}

// P2.6, P3: a conflict proves itself, and without any one of its ranges it is none if it is the first one.
func TestConflictProvesItself(t *testing.T) {
	r := random(13)
	found := 0
	for range rounds {
		n := r.network()
		l, e := net.Conflict(n, 3)
		if e != api.OK {
			continue
		}
		found++
		same(t, "CheckConflict", net.CheckConflict(n, 3, l), api.OK)
		for i := range l {
			same(t, "CheckConflict of fewer", net.CheckConflict(n, 3, slices.Delete(slices.Clone(l), i, i+1)), api.ErrProof)
		}
		alone, e := net.Without(n, others(len(n.Ranges), l))
		ok(t, "Without the others", e)
		p, e := net.Places(alone, 0, 3)
		ok(t, "Places of a conflict", e)
		same(t, "Places of a conflict", p, []api.Point{})
	}
	if found < 10 {
		t.Errorf("only %d conflicts were found", found)
	}
}

// P2.6: no shape leaves the regions.
func TestShapesStay(t *testing.T) {
	r := random(14)
	shapes := 0
	for range 20 * rounds {
		s := r.streamer()
		// a shape by steps of its own, which the fixes do not know
		l := []api.Point{r.point(s.Fixes[0].Box)}
		for len(l) < s.Nodes {
			p := l[len(l)-1]
			l = append(l, at(p.X+s.Along.Low+r.below(s.Along.High-s.Along.Low+1), p.Y+r.integer(s.Side)))
		}
		if !isShape(s, l) {
			same(t, "CheckShape", net.CheckShape(s, l), api.ErrSpan)
			continue
		}
		shapes++
		same(t, "CheckShape", net.CheckShape(s, l), api.OK)
		regions, e := net.Regions(s)
		ok(t, "Regions", e)
		for i, p := range l {
			same(t, "a node in its region", inside(p, regions[i]), true)
		}
	}
	if shapes < 50 {
		t.Errorf("only %d shapes were found", shapes)
	}
}

// P2.6: regions that drift hold every place that a drift within the limits reaches.
func TestDriftHolds(t *testing.T) {
	r := random(15)
	for range rounds {
		x, y := r.integer(100), r.integer(100)
		m := adrift(r.box(1000, 50), x, min(100, x+r.below(30)), y, min(100, y+r.below(30)))
		p := r.point(m.Box)
		for tick := range 20 {
			b, e := net.Drift(m, tick)
			ok(t, "Drift", e)
			same(t, "a place that drifts", inside(p, b), true)
			by := r.point(net.Box{X: m.X, Y: m.Y})
			p = at(p.X+by.X, p.Y+by.Y)
		}
	}
}

// P2.6: where there is no meeting, no two movers come too near to each other.
func TestMeetingHolds(t *testing.T) {
	r := random(16)
	for range rounds {
		x, y := r.integer(9), r.integer(9)
		l := []net.Mover{adrift(r.box(60, 5), x, x+1, y, y), adrift(r.box(60, 5), y, y, x, x+2)}
		m, is, e := net.Meeting(l, 10, 200)
		ok(t, "Meeting", e)
		a, b := r.point(l[0].Box), r.point(l[1].Box)
		for tick := range 11 {
			if is && tick == m[0] {
				break
			}
			same(t, "two places are too near", squaredDistance(a, b) < 200, false)
			p, q := r.point(net.Box{X: l[0].X, Y: l[0].Y}), r.point(net.Box{X: l[1].X, Y: l[1].Y})
			a, b = at(a.X+p.X, a.Y+p.Y), at(b.X+q.X, b.Y+q.Y)
		}
	}
}

// P2.6: networks that are shifted have shifted results.
func TestShiftedResults(t *testing.T) {
	r := random(17)
	for range rounds {
		n := r.network()
		const step = 3
		by := at(step*r.integer(30), step*r.integer(30))
		shifted, e := net.Shifted(n, by)
		ok(t, "Shifted", e)
		back, e := net.Shifted(shifted, at(-by.X, -by.Y))
		ok(t, "Shifted back", e)
		same(t, "Shifted back", back, n)
		alike(t, n, shifted, step)
		want, e1 := net.Narrow(n)
		if e1 == api.OK {
			want, e = net.Shifted(want, by)
			ok(t, "Shifted", e)
		}
		got, e2 := net.Narrow(shifted)
		same(t, "the error of Narrow of a shifted network", e2, e1)
		same(t, "Narrow of a shifted network", got, want)
		for i := range n.Bodies {
			l, e := net.Places(n, i, step)
			ok(t, "Places", e)
			for j := range l {
				l[j] = at(l[j].X+by.X, l[j].Y+by.Y)
			}
			m, e := net.Places(shifted, i, step)
			ok(t, "Places", e)
			same(t, "Places of a shifted network", m, l)
		}
	}
}

// alike checks that two networks have the same bad ranges and conflicts.
func alike(t *testing.T, n, m net.Network, step int) {
	t.Helper()
	a, e1 := net.Bad(n, step)
	b, e2 := net.Bad(m, step)
	same(t, "Bad", b, a)
	same(t, "the error of Bad", e2, e1)
	a, e1 = net.Conflict(n, step)
	b, e2 = net.Conflict(m, step)
	same(t, "Conflict", b, a)
	same(t, "the error of Conflict", e2, e1)
}

// P2.6: networks that are mirrored have mirrored results.
func TestMirroredResults(t *testing.T) {
	r := random(18)
	for range rounds {
		n := r.network()
		const step = 3
		mirrored, e := net.Mirrored(n)
		ok(t, "Mirrored", e)
		back, e := net.Mirrored(mirrored)
		ok(t, "Mirrored back", e)
		same(t, "Mirrored back", back, n)
		alike(t, n, mirrored, step)
		want, e1 := net.Narrow(n)
		if e1 == api.OK {
			want, e = net.Mirrored(want)
			ok(t, "Mirrored", e)
		}
		got, e2 := net.Narrow(mirrored)
		same(t, "the error of Narrow of a mirrored network", e2, e1)
		same(t, "Narrow of a mirrored network", got, want)
		for i := range n.Bodies {
			l, e := net.Places(n, i, step)
			ok(t, "Places", e)
			for j := range l {
				l[j].X = -l[j].X
			}
			slices.SortFunc(l, func(p, q api.Point) int {
				if p.X != q.X {
					return p.X - q.X
				}
				return p.Y - q.Y
			})
			m, e := net.Places(mirrored, i, step)
			ok(t, "Places", e)
			same(t, "Places of a mirrored network", m, l)
		}
	}
}

// P2.6: networks are parsed as they were printed.
func TestParsedAsPrinted(t *testing.T) {
	r := random(19)
	for range rounds {
		n := r.network()
		n, e := net.Shifted(n, at(r.integer(99000), r.integer(99000)))
		ok(t, "Shifted", e)
		for i := range n.Ranges {
			n.Ranges[i].Square.High += r.below(70000) * r.below(1000000)
		}
		text, e := net.Print(n)
		ok(t, "Print", e)
		back, index, e := net.Parse(text)
		ok(t, "Parse", e)
		same(t, "Parse of a Print", back, n)
		same(t, "the index of Parse", index, 0)
	}
}

// P2.6: what is parsed is printed as it was.
func TestPrintedAsParsed(t *testing.T) {
	r := random(20)
	parsed := 0
	for range 20 * rounds {
		text := []byte(towedText)
		text[r.below(len(text))] = "0123456789- \nabr"[r.below(16)]
		n, _, e := net.Parse(string(text))
		if e != api.OK {
			continue
		}
		parsed++
		again, e := net.Print(n)
		ok(t, "Print", e)
		same(t, "Print of a Parse", again, string(text))
	}
	if parsed < 50 {
		t.Errorf("only %d texts were parsed", parsed)
	}
}
