package net_test

import (
	"math"
	"slices"
	"testing"

	"moveout/api"
	"moveout/net"
)

func fix(node, a, b, c, d int) net.Fix {
	return net.Fix{Node: node, Box: box(a, b, c, d)}
}

// towline returns the streamer of the chapter.
func towline() net.Streamer {
	return net.Streamer{Nodes: 5, Along: span(8, 12), Side: 3, Fixes: []net.Fix{fix(0, 0, 0, 0, 0), fix(4, 44, 50, -2, 2)}}
}

// retold returns the streamer of the chapter with a change.
func retold(change func(s *net.Streamer)) net.Streamer {
	s := towline()
	change(&s)
	return s
}

// badStreamer is a streamer that is none, with its error.
type badStreamer struct {
	what string
	s    net.Streamer
	e    api.Errno
}

// badStreamers returns streamers with each error of CheckStreamer, and with two where their order matters.
func badStreamers() []badStreamer {
	l := []badStreamer{
		{"nothing", net.Streamer{}, api.ErrRange},
		{"one node", retold(func(s *net.Streamer) { s.Nodes = 1 }), api.ErrRange},
		{"65 nodes", retold(func(s *net.Streamer) { s.Nodes = 65 }), api.ErrRange},
		{"nodes below 0", retold(func(s *net.Streamer) { s.Nodes = math.MinInt }), api.ErrRange},
		{"nodes without an end", retold(func(s *net.Streamer) { s.Nodes = math.MaxInt }), api.ErrRange},
		{"one node before a wrong order", retold(func(s *net.Streamer) { s.Nodes, s.Along = 1, span(2, 1) }), api.ErrRange},
		{"a Low below 0", retold(func(s *net.Streamer) { s.Along = span(-1, 5) }), api.ErrRange},
		{"a High above 1000", retold(func(s *net.Streamer) { s.Along = span(0, 1001) }), api.ErrRange},
		{"a Low above 1000", retold(func(s *net.Streamer) { s.Along = span(1001, 1000) }), api.ErrRange},
		{"a High below 0", retold(func(s *net.Streamer) { s.Along = span(0, -1) }), api.ErrRange},
		{"a wrong order", retold(func(s *net.Streamer) { s.Along = span(2, 1) }), api.ErrOrder},
		{"a wrong order before the side", retold(func(s *net.Streamer) { s.Along, s.Side = span(1000, 0), -1 }), api.ErrOrder},
		{"a side below 0", retold(func(s *net.Streamer) { s.Side = -1 }), api.ErrRange},
		{"a side above 1000", retold(func(s *net.Streamer) { s.Side = 1001 }), api.ErrRange},
		{"a side before many fixes", retold(func(s *net.Streamer) { s.Side, s.Fixes = 1001, make([]net.Fix, 65) }), api.ErrRange},
		{"65 fixes", retold(func(s *net.Streamer) { s.Fixes = make([]net.Fix, 65) }), api.ErrMany},
		{"65 fixes before the first one", retold(func(s *net.Streamer) { s.Fixes = slices.Repeat([]net.Fix{{Node: -1}}, 65) }), api.ErrMany},
		{"a fix of no node", retold(func(s *net.Streamer) { s.Fixes[1].Node = 5 }), api.ErrUnknown},
		{"a fix before all nodes", retold(func(s *net.Streamer) { s.Fixes[0].Node = -1 }), api.ErrUnknown},
		{"a fix of no node before its box", retold(func(s *net.Streamer) { s.Fixes[1] = fix(5, 1, 0, 0, 0) }), api.ErrUnknown},
		{"a box before the node of the next fix", retold(func(s *net.Streamer) { s.Fixes = []net.Fix{fix(0, 1, 0, 0, 0), fix(5, 0, 0, 0, 0)} }), api.ErrOrder},
		{"a node before the box of the next fix", retold(func(s *net.Streamer) { s.Fixes = []net.Fix{fix(5, 0, 0, 0, 0), fix(0, 1, 0, 0, 0)} }), api.ErrUnknown},
	}
	for _, x := range badBoxes() {
		l = append(l, badStreamer{"a bad box", retold(func(s *net.Streamer) { s.Fixes[1].Box = x.b }), x.e})
	}
	return l
}

// P2.4: CheckStreamer.
func TestCheckStreamer(t *testing.T) {
	for _, s := range []net.Streamer{
		towline(),
		{Nodes: 2},
		{Nodes: 64, Along: span(1000, 1000), Side: 1000, Fixes: slices.Repeat([]net.Fix{fix(63, -100000, 100000, -100000, 100000)}, 64)},
		{Nodes: 2, Along: span(0, 1000), Fixes: []net.Fix{fix(0, 5, 5, 5, 5), fix(0, 6, 6, 6, 6)}},
	} {
		same(t, "CheckStreamer", []any{s, net.CheckStreamer(s)}, []any{s, api.OK})
	}
	for _, x := range badStreamers() {
		same(t, "CheckStreamer of "+x.what, []any{x.s, net.CheckStreamer(x.s)}, []any{x.s, x.e})
	}
}

// P2.4: Regions.
func TestRegions(t *testing.T) {
	for _, x := range []struct {
		what string
		s    net.Streamer
		want []net.Box
	}{
		{"the streamer of the chapter", towline(), []net.Box{box(0, 0, 0, 0), box(8, 12, -3, 3), box(20, 24, -6, 6), box(32, 36, -5, 5), box(44, 48, -2, 2)}},
		{"a fix of the first node alone", net.Streamer{Nodes: 3, Along: span(8, 12), Side: 3, Fixes: []net.Fix{fix(0, 1, 2, -5, 7)}}, []net.Box{box(1, 2, -5, 7), box(9, 14, -8, 10), box(17, 26, -11, 13)}},
		{"a fix of the last node alone", net.Streamer{Nodes: 3, Along: span(8, 12), Side: 3, Fixes: []net.Fix{fix(2, 1, 2, -5, 7)}}, []net.Box{box(-23, -14, -11, 13), box(-11, -6, -8, 10), box(1, 2, -5, 7)}},
		{"a fix in the middle", net.Streamer{Nodes: 3, Along: span(0, 1), Side: 0, Fixes: []net.Fix{fix(1, 5, 5, 6, 7)}}, []net.Box{box(4, 5, 6, 7), box(5, 5, 6, 7), box(5, 6, 6, 7)}},
		{"two fixes of one node", net.Streamer{Nodes: 2, Along: span(10, 10), Side: 0, Fixes: []net.Fix{fix(1, 0, 9, -9, 3), fix(1, 6, 12, 1, 8)}}, []net.Box{box(-4, -1, 1, 3), box(6, 9, 1, 3)}},
		{"fixes in any order", net.Streamer{Nodes: 4, Along: span(1, 3), Side: 2, Fixes: []net.Fix{fix(3, 0, 20, 5, 5), fix(0, 0, 1, 0, 9), fix(2, 3, 3, -9, 9)}}, []net.Box{box(0, 1, 0, 9), box(1, 2, 1, 9), box(3, 3, 3, 7), box(4, 6, 5, 5)}},
		{"a wide fix that the others narrow", net.Streamer{Nodes: 3, Along: span(5, 6), Side: 1, Fixes: []net.Fix{fix(1, -100000, 100000, -100000, 100000), fix(0, 0, 0, 0, 0), fix(2, 12, 30, 2, 2)}}, []net.Box{box(0, 0, 0, 0), box(6, 6, 1, 1), box(12, 12, 2, 2)}},
	} {
		l, e := net.Regions(x.s)
		ok(t, "Regions of "+x.what, e)
		same(t, "Regions of "+x.what, l, x.want)
	}
}

// P2.4: regions beyond MaxPlace.
func TestRegionsFar(t *testing.T) {
	for _, x := range []struct {
		node int
		f    net.Fix
		want net.Box
	}{
		{63, fix(0, 100000, 100000, 100000, 100000), box(100000, 163000, 37000, 163000)},
		{63, fix(0, -100000, -100000, -100000, -100000), box(-100000, -37000, -163000, -37000)},
		{0, fix(63, -100000, -100000, -100000, -100000), box(-163000, -100000, -163000, -37000)},
		{0, fix(63, 100000, 100000, 100000, 100000), box(37000, 100000, 37000, 163000)},
		{63, fix(0, -100000, 100000, -100000, 100000), box(-100000, 163000, -163000, 163000)},
		{0, fix(63, -100000, 100000, -100000, 100000), box(-163000, 100000, -163000, 163000)},
		{0, fix(0, -100000, 100000, -100000, 100000), box(-100000, 100000, -100000, 100000)},
	} {
		l, e := net.Regions(net.Streamer{Nodes: 64, Along: span(0, 1000), Side: 1000, Fixes: []net.Fix{x.f}})
		ok(t, "Regions", e)
		same(t, "the number of Regions", len(l), 64)
		same(t, "Regions far away", l[x.node], x.want)
	}
	l, e := net.Regions(net.Streamer{Nodes: 64, Along: span(1000, 1000), Fixes: []net.Fix{fix(0, 100000, 100000, 0, 0)}})
	ok(t, "Regions", e)
	for i, b := range l {
		same(t, "Regions of a straight line", b, box(100000+1000*i, 100000+1000*i, 0, 0))
	}
	// both ends at once: the only shapes go in a straight line
	l, e = net.Regions(net.Streamer{Nodes: 64, Along: span(0, 1000), Side: 1000, Fixes: []net.Fix{fix(0, 0, 0, 0, 0), fix(63, 63000, 63000, -63000, -63000)}})
	ok(t, "Regions", e)
	for i, b := range l {
		same(t, "Regions between two ends", b, box(1000*i, 1000*i, -1000*i, -1000*i))
	}
}

// P2.4: the errors of Regions.
func TestRegionsErrors(t *testing.T) {
	for _, x := range badStreamers() {
		l, e := net.Regions(x.s)
		fails(t, "Regions of "+x.what, l, e, x.e)
	}
	for _, x := range []struct {
		what string
		s    net.Streamer
		e    api.Errno
	}{
		{"no fixes", net.Streamer{Nodes: 2}, api.ErrNone},
		{"a fix that is too far", net.Streamer{Nodes: 2, Along: span(8, 12), Side: 3, Fixes: []net.Fix{fix(0, 0, 0, 0, 0), fix(1, 13, 20, 0, 0)}}, api.ErrInfeasible},
		{"a fix that is too near", net.Streamer{Nodes: 2, Along: span(8, 12), Side: 3, Fixes: []net.Fix{fix(0, 0, 0, 0, 0), fix(1, 0, 7, 0, 0)}}, api.ErrInfeasible},
		{"a fix that is behind", net.Streamer{Nodes: 2, Along: span(8, 12), Side: 3, Fixes: []net.Fix{fix(0, 0, 0, 0, 0), fix(1, -12, -8, 0, 0)}}, api.ErrInfeasible},
		{"a fix beside", net.Streamer{Nodes: 2, Along: span(8, 12), Side: 3, Fixes: []net.Fix{fix(0, 0, 0, 0, 0), fix(1, 8, 12, 4, 9)}}, api.ErrInfeasible},
		{"a fix at the other side", net.Streamer{Nodes: 3, Along: span(8, 12), Side: 3, Fixes: []net.Fix{fix(0, 0, 0, 0, 0), fix(2, 16, 24, -9, -7)}}, api.ErrInfeasible},
		{"two fixes of one node", net.Streamer{Nodes: 2, Along: span(8, 12), Side: 3, Fixes: []net.Fix{fix(1, 0, 4, 0, 0), fix(1, 5, 9, 0, 0)}}, api.ErrInfeasible},
		{"two fixes of one node by Y", net.Streamer{Nodes: 2, Along: span(8, 12), Side: 3, Fixes: []net.Fix{fix(1, 0, 4, 5, 9), fix(1, 0, 4, 0, 4)}}, api.ErrInfeasible},
		{"three fixes, two of which have a shape each", net.Streamer{Nodes: 3, Along: span(8, 12), Side: 3, Fixes: []net.Fix{fix(0, 0, 0, 0, 0), fix(1, 12, 12, 0, 0), fix(2, 16, 19, 0, 0)}}, api.ErrInfeasible},
	} {
		l, e := net.Regions(x.s)
		fails(t, "Regions with "+x.what, l, e, x.e)
		p, e := net.Shape(x.s, 0, at(0, 0))
		fails(t, "Shape with "+x.what, p, e, x.e)
		p, e = net.Shape(x.s, 0, at(1<<62, 0))
		fails(t, "Shape at a far point with "+x.what, p, e, x.e)
		p, e = net.Shape(x.s, x.s.Nodes, at(0, 0))
		fails(t, "Shape of no node with "+x.what, p, e, api.ErrUnknown)
	}
}

// streamer returns a small streamer near 0, with a fix at least.
func (r *random) streamer() net.Streamer {
	low := r.below(6)
	s := net.Streamer{Nodes: 2 + r.below(5), Along: span(low, low+r.below(4)), Side: r.below(4)}
	for range 1 + r.below(4) {
		node := r.below(s.Nodes)
		b := r.box(4, 6)
		b.X.Low += node * 6
		b.X.High += node * 6
		s.Fixes = append(s.Fixes, net.Fix{Node: node, Box: b})
	}
	return s
}

// P2.4, P2.6: Regions of small streamers, by the definition; each corner is that of a shape.
func TestRegionsSmall(t *testing.T) {
	r := random(6)
	feasible := 0
	for range 300 {
		s := r.streamer()
		want, is := regionsOf(s)
		l, e := net.Regions(s)
		if !is {
			fails(t, "Regions", l, e, api.ErrInfeasible)
			continue
		}
		feasible++
		ok(t, "Regions", e)
		same(t, "Regions", l, want)
		for node, b := range l {
			for _, p := range []api.Point{at(b.X.Low, b.Y.Low), at(b.X.Low, b.Y.High), at(b.X.High, b.Y.Low), at(b.X.High, b.Y.High), r.point(b)} {
				shaped(t, s, node, p)
			}
			for _, p := range []api.Point{at(b.X.Low-1, b.Y.Low), at(b.X.High+1, b.Y.Low), at(b.X.Low, b.Y.Low-1), at(b.X.Low, b.Y.High+1)} {
				l, e := net.Shape(s, node, p)
				fails(t, "Shape outside of a region", l, e, api.ErrSpan)
			}
		}
	}
	if feasible < 50 || feasible > 250 {
		t.Errorf("%d of the streamers have a shape", feasible)
	}
}

// shaped checks that Shape returns a shape in which a node has a point.
func shaped(t *testing.T, s net.Streamer, node int, p api.Point) {
	t.Helper()
	l, e := net.Shape(s, node, p)
	ok(t, "Shape", e)
	if !isShape(s, l) || l[node] != p {
		t.Errorf("Shape of %v with the node %d at %v: got %v", s, node, p, l)
	}
	same(t, "CheckShape of a Shape", net.CheckShape(s, l), api.OK)
}

// P2.4: Shape.
func TestShape(t *testing.T) {
	for _, p := range []api.Point{at(20, 6), at(24, -6), at(22, 0), at(20, -6), at(24, 6)} {
		shaped(t, towline(), 2, p)
	}
	shaped(t, towline(), 0, at(0, 0))
	shaped(t, towline(), 4, at(48, -2))
	// points of a shape may be beyond MaxPlace
	far := net.Streamer{Nodes: 64, Along: span(900, 1000), Side: 1000, Fixes: []net.Fix{fix(0, 100000, 100000, 100000, 100000)}}
	shaped(t, far, 63, at(163000, 163000))
	shaped(t, far, 63, at(156700, 37000))
	far.Fixes[0].Node = 63
	shaped(t, far, 0, at(37000, 163000))
	// fixes of which only some leave the nodes behind them free
	shaped(t, net.Streamer{Nodes: 6, Along: span(0, 9), Side: 9, Fixes: []net.Fix{fix(1, 0, 30, 0, 30), fix(4, 20, 21, -5, -4)}}, 2, at(2, 5))
}

// P2.4: the errors of Shape.
func TestShapeErrors(t *testing.T) {
	for _, x := range badStreamers() {
		l, e := net.Shape(x.s, -1, at(0, 0))
		fails(t, "Shape of "+x.what, l, e, x.e)
	}
	for _, node := range []int{-1, 5, 64, math.MinInt, math.MaxInt} {
		l, e := net.Shape(towline(), node, at(1<<62, 0))
		fails(t, "Shape of no node", l, e, api.ErrUnknown)
	}
	for _, p := range []api.Point{at(19, 0), at(25, 0), at(22, 7), at(22, -7), at(math.MinInt, 0), at(math.MaxInt, 0), at(22, math.MinInt), at(22, math.MaxInt), at(math.MinInt, math.MinInt)} {
		l, e := net.Shape(towline(), 2, p)
		fails(t, "Shape outside of the region", l, e, api.ErrSpan)
	}
}

// P2.4: CheckShape.
func TestCheckShape(t *testing.T) {
	line := func(change ...api.Point) []api.Point {
		l := []api.Point{at(0, 0), at(12, 3), at(24, 0), at(36, 0), at(48, 2)}
		copy(l[5-len(change):], change)
		return l
	}
	for _, x := range []struct {
		l []api.Point
		e api.Errno
	}{
		{line(), api.OK},
		{[]api.Point{at(0, 0), at(8, -3), at(20, -6), at(32, -3), at(44, 0)}, api.OK},
		{line(at(48, 3)), api.ErrSpan}, {line(at(36, 0), at(49, 2)), api.ErrRule}, {line(at(36, 0), at(43, 2)), api.ErrRule}, {line(at(31, 0), at(43, 2)), api.ErrRule},
		{[]api.Point{at(0, 0), at(10, 0), at(20, 0), at(30, 0), at(40, 0)}, api.ErrSpan}, {[]api.Point{at(1, 0), at(12, 0), at(24, 0), at(36, 0), at(48, 0)}, api.ErrSpan}, {[]api.Point{at(0, 1), at(12, 0), at(24, 0), at(36, 0), at(48, 0)}, api.ErrSpan}, {[]api.Point{at(0, 0), at(12, -1), at(24, -2), at(36, -3), at(48, -3)}, api.ErrSpan},
		{[]api.Point{at(0, 0), at(13, 0), at(24, 0), at(36, 0), at(48, 2)}, api.ErrRule}, {[]api.Point{at(0, 0), at(12, 4), at(24, 4), at(36, 2), at(48, 2)}, api.ErrRule}, {[]api.Point{at(0, 0), at(12, -4), at(24, -4), at(36, -2), at(48, -2)}, api.ErrRule}, {[]api.Point{at(0, 0), at(-12, 0), at(-24, 0), at(-36, 0), at(-48, 0)}, api.ErrRule}, {[]api.Point{at(0, 0), at(7, 0), at(19, 0), at(31, 0), at(43, 0)}, api.ErrRule},
		// the steps before the fixes
		{[]api.Point{at(5, 0), at(12, 0), at(24, 0), at(36, 0), at(60, 0)}, api.ErrRule},
		{nil, api.ErrShape}, {line()[:4], api.ErrShape}, {append(line(), at(60, 2)), api.ErrShape}, {make([]api.Point, 4), api.ErrShape},
	} {
		same(t, "CheckShape", []any{x.l, net.CheckShape(towline(), x.l)}, []any{x.l, x.e})
	}
	for _, x := range badStreamers() {
		same(t, "CheckShape of "+x.what, net.CheckShape(x.s, nil), x.e)
	}
	// a streamer without a fix has shapes, and several fixes of a node all count
	free := net.Streamer{Nodes: 2, Along: span(0, 5), Side: 0}
	same(t, "CheckShape without fixes", net.CheckShape(free, []api.Point{at(7, 7), at(7, 7)}), api.OK)
	free.Fixes = []net.Fix{fix(1, 0, 9, 0, 9), fix(1, 8, 9, 0, 9)}
	same(t, "CheckShape with two fixes of a node", net.CheckShape(free, []api.Point{at(7, 7), at(7, 7)}), api.ErrSpan)
	same(t, "CheckShape with two fixes of a node", net.CheckShape(free, []api.Point{at(7, 7), at(8, 7)}), api.OK)
}

// P2.4: points of a shape may be any integers, whose differences may be too large for an int.
func TestCheckShapeFar(t *testing.T) {
	const least, most = math.MinInt, math.MaxInt
	s := net.Streamer{Nodes: 2, Along: span(0, 1000), Side: 1000}
	for _, x := range []struct {
		a, b api.Point
		e    api.Errno
	}{
		{at(most-1000, 0), at(most, 0), api.OK}, {at(least, 0), at(least+1000, 0), api.OK}, {at(most, most), at(most, most-1000), api.OK}, {at(least, least), at(least, least+1000), api.OK},
		{at(most-1001, 0), at(most, 0), api.ErrRule}, {at(least, least), at(least, least+1001), api.ErrRule}, {at(0, most), at(0, most-1001), api.ErrRule},
		{at(most, 0), at(least, 0), api.ErrRule}, {at(most, 0), at(least+5, 0), api.ErrRule}, {at(least, 0), at(most, 0), api.ErrRule}, {at(least+5, 0), at(most, 0), api.ErrRule},
		{at(0, most), at(0, least), api.ErrRule}, {at(0, least), at(0, most), api.ErrRule}, {at(0, most), at(0, least+5), api.ErrRule}, {at(0, least+5), at(0, most), api.ErrRule}, {at(0, -1), at(0, most), api.ErrRule}, {at(0, 0), at(0, least), api.ErrRule}, {at(0, least), at(0, 0), api.ErrRule}, {at(-1, 0), at(most, 0), api.ErrRule}, {at(-2, 0), at(most, 0), api.ErrRule},
		{at(1<<32, 0), at(1<<33, 0), api.ErrRule},
	} {
		same(t, "CheckShape", []any{x.a, x.b, net.CheckShape(s, []api.Point{x.a, x.b})}, []any{x.a, x.b, x.e})
	}
	s.Fixes = []net.Fix{fix(0, -5, 5, -5, 5)}
	same(t, "CheckShape far from a fix", net.CheckShape(s, []api.Point{at(most, most), at(most, most)}), api.ErrSpan)
	same(t, "CheckShape far from a fix", net.CheckShape(s, []api.Point{at(least, least), at(least, least)}), api.ErrSpan)
}
