package net_test

import (
	"math"
	"slices"
	"strings"
	"testing"

	"moveout/api"
	"moveout/net"
)

// P2.1: CheckBox.
func TestCheckBox(t *testing.T) {
	for _, b := range []net.Box{{}, box(0, 0, 0, 0), box(-100000, 100000, -100000, 100000), box(100000, 100000, -100000, -100000), box(-3, -3, 5, 6)} {
		same(t, "CheckBox", net.CheckBox(b), api.OK)
	}
	for _, x := range badBoxes() {
		same(t, "CheckBox", []any{x.b, net.CheckBox(x.b)}, []any{x.b, x.e})
	}
}

// P2.1: Squares.
func TestSquares(t *testing.T) {
	for _, x := range []struct {
		a, b net.Box
		want api.Interval
	}{
		{box(0, 0, 0, 0), box(90, 110, -20, 20), span(8100, 12500)},
		{box(0, 0, 0, 0), box(0, 0, 0, 0), span(0, 0)},
		{box(5, 5, 7, 7), box(2, 2, 3, 3), span(25, 25)},
		{box(0, 10, 0, 10), box(5, 6, 7, 8), span(0, 100)},
		{box(0, 10, 0, 10), box(0, 10, 0, 10), span(0, 200)},
		{box(0, 10, 0, 10), box(10, 20, 10, 20), span(0, 800)},
		{box(0, 10, 0, 10), box(11, 20, 5, 6), span(1, 436)},
		{box(0, 1, 0, 1), box(3, 4, 4, 6), span(13, 52)},
		{box(0, 3, -8, -4), box(1, 2, 1, 1), span(25, 85)},
		{box(-100000, -100000, -100000, -100000), box(100000, 100000, 100000, 100000), span(80000000000, 80000000000)},
		{box(-100000, 100000, -100000, 100000), box(-100000, 100000, -100000, 100000), span(0, 80000000000)},
	} {
		for _, y := range [][2]net.Box{{x.a, x.b}, {x.b, x.a}} {
			s, e := net.Squares(y[0], y[1])
			ok(t, "Squares", e)
			same(t, "Squares", []any{y, s}, []any{y, x.want})
		}
	}
	r := random(1)
	for range 300 {
		a, b := r.box(6, 5), r.box(6, 5)
		s, e := net.Squares(a, b)
		ok(t, "Squares", e)
		same(t, "Squares", []any{a, b, s}, []any{a, b, squaresOf(a, b)})
	}
	for _, x := range badBoxes() {
		s, e := net.Squares(x.b, box(0, 0, 0, 0))
		fails(t, "Squares of a bad box", s, e, x.e)
		s, e = net.Squares(box(0, 0, 0, 0), x.b)
		fails(t, "Squares with a bad box", s, e, x.e)
	}
	s, e := net.Squares(box(1, 0, 0, 0), box(0, 100001, 0, 0))
	fails(t, "Squares of two bad boxes", s, e, api.ErrOrder)
	s, e = net.Squares(box(0, 100001, 0, 0), box(1, 0, 0, 0))
	fails(t, "Squares of two bad boxes", s, e, api.ErrRange)
}

// P2.1: CheckNetwork.
func TestCheckNetwork(t *testing.T) {
	for _, n := range []net.Network{
		towed(),
		{Bodies: crowd(1)},
		{Bodies: crowd(8)},
		{Bodies: crowd(2), Ranges: slices.Repeat([]net.Range{between(1, 0, 0, 0)}, 24)},
		{Bodies: crowd(2), Ranges: []net.Range{between(0, 1, 0, 80000000000), between(0, 1, 80000000000, 80000000000), between(0, 1, 3, 3)}},
		{Bodies: []net.Body{body("a", 0, 0, 0, 0), body("A", 0, 0, 0, 0), body(strings.Repeat("a", 24), -100000, 100000, -100000, 100000)}},
	} {
		same(t, "CheckNetwork", []any{n, net.CheckNetwork(n)}, []any{n, api.OK})
	}
	for _, x := range badNetworks() {
		same(t, "CheckNetwork of "+x.what, []any{x.n, net.CheckNetwork(x.n)}, []any{x.n, x.e})
	}
}

// P2.1: Unkept.
func TestUnkept(t *testing.T) {
	for _, x := range []struct {
		l    []api.Point
		want []int
	}{
		{[]api.Point{at(0, 0), at(95, 0), at(200, 0)}, []int{0}},
		{[]api.Point{at(0, 0), at(100, 0), at(190, 0)}, nil},
		{[]api.Point{at(0, 0), at(104, 0), at(194, 0)}, nil},
		{[]api.Point{at(0, 0), at(104, 1), at(194, 1)}, []int{0}},
		{[]api.Point{at(0, 0), at(100, 0), at(210, 0)}, nil},
		{[]api.Point{at(0, 0), at(100, 0), at(210, 1)}, []int{1}},
		{[]api.Point{at(0, 0), at(100, 0), at(189, 0)}, []int{1}},
		{[]api.Point{at(0, 0), at(99, 0), at(180, 0)}, []int{0, 1}},
		{[]api.Point{at(0, 0), at(110, 0), at(180, 30)}, []int{0, 1}},
		{[]api.Point{at(0, 0), at(90, 20), at(220, -30)}, []int{0, 1}},
	} {
		l, e := net.Unkept(towed(), x.l)
		ok(t, "Unkept", e)
		same(t, "Unkept", []any{x.l, plain(l)}, []any{x.l, plain(x.want)})
	}
	r := random(2)
	for range 300 {
		n := r.network()
		var placing []api.Point
		for _, b := range n.Bodies {
			placing = append(placing, r.point(b.Box))
		}
		l, e := net.Unkept(n, placing)
		ok(t, "Unkept", e)
		same(t, "Unkept", l, unkeptBy(n, placing))
	}
	far := net.Network{Bodies: []net.Body{body("a", -100000, -100000, -100000, -100000), body("b", 100000, 100000, 100000, 100000)}, Ranges: []net.Range{between(1, 0, 80000000000, 80000000000), between(0, 1, 0, 79999999999)}}
	l, e := net.Unkept(far, []api.Point{at(-100000, -100000), at(100000, 100000)})
	ok(t, "Unkept", e)
	same(t, "Unkept far away", l, []int{1})
}

// P2.1: the errors of Unkept.
func TestUnkeptErrors(t *testing.T) {
	for _, x := range badNetworks() {
		l, e := net.Unkept(x.n, nil)
		fails(t, "Unkept of "+x.what, l, e, x.e)
		l, e = net.Unkept(x.n, make([]api.Point, 100))
		fails(t, "Unkept of "+x.what, l, e, x.e)
	}
	for _, x := range []struct {
		l []api.Point
		e api.Errno
	}{
		{nil, api.ErrShape}, {[]api.Point{at(0, 0), at(95, 0)}, api.ErrShape}, {[]api.Point{at(0, 0), at(95, 0), at(200, 0), at(0, 0)}, api.ErrShape}, {[]api.Point{at(1, 0), at(0, 0)}, api.ErrShape},
		{[]api.Point{at(1, 0), at(100, 0), at(200, 0)}, api.ErrSpan}, {[]api.Point{at(0, -1), at(100, 0), at(200, 0)}, api.ErrSpan}, {[]api.Point{at(0, 0), at(89, 0), at(200, 0)}, api.ErrSpan}, {[]api.Point{at(0, 0), at(111, 0), at(200, 0)}, api.ErrSpan}, {[]api.Point{at(0, 0), at(100, 21), at(200, 0)}, api.ErrSpan}, {[]api.Point{at(0, 0), at(100, -21), at(200, 0)}, api.ErrSpan}, {[]api.Point{at(0, 0), at(100, 0), at(221, 0)}, api.ErrSpan},
		{[]api.Point{at(0, 0), at(100, 0), at(math.MinInt, math.MaxInt)}, api.ErrSpan},
	} {
		l, e := net.Unkept(towed(), x.l)
		fails(t, "Unkept", l, e, x.e)
	}
}

// P2.1: Without.
func TestWithout(t *testing.T) {
	three := towed(between(0, 2, 0, 5))
	for _, x := range []struct {
		l    []int
		left []int
	}{
		{nil, []int{0, 1, 2}}, {[]int{0}, []int{1, 2}}, {[]int{1}, []int{0, 2}}, {[]int{2}, []int{0, 1}}, {[]int{0, 1}, []int{2}}, {[]int{0, 2}, []int{1}}, {[]int{1, 2}, []int{0}}, {[]int{0, 1, 2}, nil},
	} {
		want := clone(three)
		want.Ranges = nil
		for _, i := range x.left {
			want.Ranges = append(want.Ranges, three.Ranges[i])
		}
		n, e := net.Without(three, x.l)
		ok(t, "Without", e)
		same(t, "Without", n, want)
	}
	many := net.Network{Bodies: crowd(2), Ranges: slices.Repeat([]net.Range{between(1, 0, 0, 0)}, 24)}
	n, e := net.Without(many, others(24, nil))
	ok(t, "Without", e)
	same(t, "Without any of 24", n, net.Network{Bodies: crowd(2)})
	for _, x := range badNetworks() {
		n, e := net.Without(x.n, []int{-1})
		fails(t, "Without of "+x.what, n, e, x.e)
	}
	for _, x := range badIndices() {
		n, e := net.Without(three, x.l)
		fails(t, "Without", n, e, x.e)
	}
	n, e = net.Without(net.Network{Bodies: crowd(2)}, []int{0})
	fails(t, "Without a range of none", n, e, api.ErrUnknown)
}

type badList struct {
	l []int
	e api.Errno
}

// badIndices returns lists with each error of a list of ranges of a network that has three.
func badIndices() []badList {
	return []badList{
		{[]int{3}, api.ErrUnknown}, {[]int{-1}, api.ErrUnknown}, {[]int{0, 3}, api.ErrUnknown}, {[]int{math.MinInt}, api.ErrUnknown}, {[]int{math.MaxInt}, api.ErrUnknown}, {[]int{0, 1, 2, 3}, api.ErrUnknown},
		{[]int{1, 0}, api.ErrOrder}, {[]int{1, 1}, api.ErrOrder}, {[]int{0, 2, 1}, api.ErrOrder}, {[]int{0, 0}, api.ErrOrder},
		// the first element with an error decides, with the first of its errors
		{[]int{1, 0, 3}, api.ErrOrder}, {[]int{3, 0}, api.ErrUnknown}, {[]int{1, -1}, api.ErrUnknown},
		{make([]int, 25), api.ErrMany}, {slices.Repeat([]int{-1}, 25), api.ErrMany}, {slices.Repeat([]int{-1}, 24), api.ErrUnknown}, {make([]int, 24), api.ErrOrder},
	}
}

// P2.1: Shifted.
func TestShifted(t *testing.T) {
	for _, by := range []api.Point{at(0, 0), at(-5, 7), at(99780, 99970), at(-100000, -99970), at(3, -99970)} {
		want := towed()
		for i, b := range want.Bodies {
			want.Bodies[i].Box = box(b.Box.X.Low+by.X, b.Box.X.High+by.X, b.Box.Y.Low+by.Y, b.Box.Y.High+by.Y)
		}
		n, e := net.Shifted(towed(), by)
		ok(t, "Shifted", e)
		same(t, "Shifted", n, want)
	}
	for _, x := range []struct {
		by api.Point
		e  api.Errno
	}{
		{at(99781, 0), api.ErrLarge}, {at(100000, 0), api.ErrLarge}, {at(0, 99971), api.ErrLarge}, {at(0, -99971), api.ErrLarge}, {at(0, 100000), api.ErrLarge}, {at(-100000, -100000), api.ErrLarge},
		{at(100001, 0), api.ErrRange}, {at(-100001, 0), api.ErrRange}, {at(0, 100001), api.ErrRange}, {at(0, -100001), api.ErrRange}, {at(100000, 100001), api.ErrRange}, {at(math.MinInt, 0), api.ErrRange}, {at(0, math.MaxInt), api.ErrRange}, {at(math.MaxInt, math.MinInt), api.ErrRange},
	} {
		n, e := net.Shifted(towed(), x.by)
		fails(t, "Shifted", n, e, x.e)
	}
	left := net.Network{Bodies: []net.Body{body("a", -99999, 0, 0, 0), body("b", 0, 0, 0, 0)}}
	n, e := net.Shifted(left, at(-2, 0))
	fails(t, "Shifted beyond the left end", n, e, api.ErrLarge)
	n, e = net.Shifted(left, at(-1, 0))
	ok(t, "Shifted to the left end", e)
	same(t, "Shifted to the left end", boxes(n), []net.Box{box(-100000, -1, 0, 0), box(-1, -1, 0, 0)})
	for _, x := range badNetworks() {
		n, e := net.Shifted(x.n, at(100001, 0))
		fails(t, "Shifted of "+x.what, n, e, x.e)
		n, e = net.Shifted(x.n, at(100000, 0))
		fails(t, "Shifted of "+x.what, n, e, x.e)
	}
}

// P2.1: Mirrored.
func TestMirrored(t *testing.T) {
	want := towed()
	want.Bodies = []net.Body{body("vessel", 0, 0, 0, 0), body("buoy", -110, -90, -20, 20), body("tail", -220, -180, -30, 30)}
	n, e := net.Mirrored(towed())
	ok(t, "Mirrored", e)
	same(t, "Mirrored", n, want)
	n, e = net.Mirrored(net.Network{Bodies: []net.Body{body("a", -100000, 5, 3, 4)}})
	ok(t, "Mirrored", e)
	same(t, "Mirrored", boxes(n), []net.Box{box(-5, 100000, 3, 4)})
	for _, x := range badNetworks() {
		n, e := net.Mirrored(x.n)
		fails(t, "Mirrored of "+x.what, n, e, x.e)
	}
}
