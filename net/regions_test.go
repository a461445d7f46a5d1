package net_test

import (
	"math"
	"slices"
	"testing"

	"moveout/api"
	"moveout/net"
)

// P2.2: Narrow of the network N and of what is near it.
func TestNarrowTowed(t *testing.T) {
	for _, x := range []struct {
		what string
		n    net.Network
		want []net.Box
	}{
		{"N", towed(), []net.Box{box(0, 0, 0, 0), box(90, 104, -20, 20), box(180, 214, -30, 30)}},
		{"N with its ranges turned", changed(func(n *net.Network) {
			n.Ranges = []net.Range{between(2, 1, 8100, 12100), between(1, 0, 10000, 10816)}
		}), []net.Box{box(0, 0, 0, 0), box(90, 104, -20, 20), box(180, 214, -30, 30)}},
		{"a High between two squares", changed(func(n *net.Network) { n.Ranges[0].Square.High = 11024 }), []net.Box{box(0, 0, 0, 0), box(90, 104, -20, 20), box(180, 214, -30, 30)}},
		{"a High that is the next square", changed(func(n *net.Network) { n.Ranges[0].Square.High = 11025 }), []net.Box{box(0, 0, 0, 0), box(90, 105, -20, 20), box(180, 215, -30, 30)}},
		{"no ranges", net.Network{Bodies: towed().Bodies}, boxes(towed())},
		{"vessel and tail near to each other", towed(between(2, 0, 0, 32400)), []net.Box{box(0, 0, 0, 0), box(90, 104, -20, 20), box(180, 180, -30, 30)}},
		{"a Low alone", net.Network{Bodies: towed().Bodies, Ranges: []net.Range{between(0, 1, 12000, 80000000000)}}, boxes(towed())},
		{"a Low at its end", towed(between(1, 2, 17876, 80000000000)), []net.Box{box(0, 0, 0, 0), box(90, 104, -20, 20), box(180, 214, -30, 30)}},
		{"all four sides", net.Network{
			Bodies: []net.Body{body("a", -50, 60, -70, 80), body("b", 0, 3, 1, 5)},
			Ranges: []net.Range{between(1, 0, 0, 120)},
		}, []net.Box{box(-10, 13, -9, 15), box(0, 3, 1, 5)}},
		{"both boxes", net.Network{
			Bodies: []net.Body{body("a", 0, 50, -50, 0), body("b", 45, 90, -90, -45)},
			Ranges: []net.Range{between(0, 1, 0, 9)},
		}, []net.Box{box(42, 50, -50, -42), box(45, 53, -53, -45)}},
		{"two ranges of the same bodies", net.Network{
			Bodies: []net.Body{body("a", 0, 0, 0, 0), body("b", -50, 50, -50, 50)},
			Ranges: []net.Range{between(0, 1, 0, 100), between(1, 0, 0, 49)},
		}, []net.Box{box(0, 0, 0, 0), box(-7, 7, -7, 7)}},
		{"far away", net.Network{
			Bodies: []net.Body{body("a", -100000, -100000, -100000, -100000), body("b", -100000, 100000, -100000, 100000)},
			Ranges: []net.Range{between(0, 1, 0, 80000000000)},
		}, []net.Box{box(-100000, -100000, -100000, -100000), box(-100000, 100000, -100000, 100000)}},
		{"far away, and nearer by a root", net.Network{
			Bodies: []net.Body{body("a", -100000, -100000, 100000, 100000), body("b", -100000, 100000, -100000, 100000)},
			Ranges: []net.Range{between(0, 1, 0, 39999999999)},
		}, []net.Box{box(-100000, -100000, 100000, 100000), box(-100000, 99999, -99999, 100000)}},
	} {
		n, e := net.Narrow(x.n)
		ok(t, "Narrow of "+x.what, e)
		want := clone(x.n)
		for i := range want.Bodies {
			want.Bodies[i].Box = x.want[i]
		}
		same(t, "Narrow of "+x.what, n, want)
	}
}

// chain returns a network of eight bodies, each of which is near the one before it, with the ranges in the order of a list.
func chain(order []int) net.Network {
	n := net.Network{Bodies: crowd(8)}
	for i := range n.Bodies {
		n.Bodies[i].Box = box(-1000, 1000, -1000, 1000)
	}
	n.Bodies[3].Box = box(5, 6, -8, -7)
	for _, i := range order {
		n.Ranges = append(n.Ranges, between(i, i+1, 0, (i+1)*(i+1)))
	}
	return n
}

// P2.2: Narrow goes on until no box becomes any smaller, and the order of the ranges does not matter.
func TestNarrowChains(t *testing.T) {
	want := []net.Box{box(-1, 12, -14, -1), box(0, 11, -13, -2), box(2, 9, -11, -4), box(5, 6, -8, -7), box(1, 10, -12, -3), box(-4, 15, -17, 2), box(-10, 21, -23, 8), box(-17, 28, -30, 15)}
	for key := 1; key <= 30; key++ {
		r := random(key)
		order := others(7, nil)
		for i := range order {
			j := r.below(i + 1)
			order[i], order[j] = order[j], order[i]
		}
		n, e := net.Narrow(chain(order))
		ok(t, "Narrow", e)
		same(t, "Narrow of a chain", boxes(n), want)
	}
	for _, order := range [][]int{{0, 1, 2, 3, 4, 5, 6}, {6, 5, 4, 3, 2, 1, 0}} {
		n, e := net.Narrow(chain(order))
		ok(t, "Narrow", e)
		same(t, "Narrow of a chain", boxes(n), want)
	}
}

// P2.2: ErrInfeasible of Narrow.
func TestNarrowInfeasible(t *testing.T) {
	pair := func(a, b net.Box, ranges ...net.Range) net.Network {
		return net.Network{Bodies: []net.Body{{Name: "a", Box: a}, {Name: "b", Box: b}}, Ranges: ranges}
	}
	for _, x := range []struct {
		what string
		n    net.Network
		e    api.Errno
	}{
		{"an empty X", towed(between(0, 2, 0, 32399)), api.ErrInfeasible},
		{"an X of one place", towed(between(0, 2, 0, 32400)), api.OK},
		{"an empty Y", pair(box(0, 0, 0, 0), box(0, 0, 10, 20), between(0, 1, 0, 99)), api.ErrInfeasible},
		{"a Y of one place", pair(box(0, 0, 0, 0), box(0, 0, 10, 20), between(0, 1, 0, 100)), api.OK},
		{"an empty Y below", pair(box(0, 0, 0, 0), box(0, 0, -20, -10), between(1, 0, 0, 99)), api.ErrInfeasible},
		{"an empty X at the left", pair(box(0, 0, 0, 0), box(-20, -10, 0, 0), between(0, 1, 0, 99)), api.ErrInfeasible},
		{"a corner that is too far", pair(box(0, 0, 0, 0), box(3, 3, 4, 4), between(0, 1, 0, 24)), api.ErrInfeasible},
		{"a corner that is near enough", pair(box(0, 0, 0, 0), box(3, 3, 4, 4), between(0, 1, 0, 25)), api.OK},
		{"a Low that is too great", pair(box(0, 1, 0, 1), box(0, 3, 0, 4), between(0, 1, 26, 1000)), api.ErrInfeasible},
		{"a Low that is reached", pair(box(0, 1, 0, 1), box(0, 3, 0, 4), between(0, 1, 25, 1000)), api.OK},
		// the first box reaches 18500 before it is narrowed
		{"a Low that is too great when all is narrowed", towed(between(1, 2, 17877, 80000000000)), api.ErrInfeasible},
		{"a Low that is too great by a later range", pair(box(0, 0, 0, 0), box(0, 100, 0, 0), between(0, 1, 5000, 80000000000), between(0, 1, 0, 4000)), api.ErrInfeasible},
		{"a High beyond the root's square", pair(box(0, 0, 0, 0), box(2, 5, 2, 5), between(0, 1, 0, 7)), api.ErrInfeasible},
		{"a High at the corner", pair(box(0, 0, 0, 0), box(2, 5, 2, 5), between(0, 1, 0, 8)), api.OK},
		// each range alone is kept by some points
		{"a conflict that boxes do not show", pair(box(0, 0, 0, 0), box(-9, 9, 0, 0), between(0, 1, 0, 16), between(0, 1, 16, 25)), api.OK},
		{"a range of three", net.Network{Bodies: []net.Body{body("a", 0, 0, 0, 0), body("b", 0, 100, 0, 0), body("c", 50, 100, 0, 0)}, Ranges: []net.Range{between(2, 1, 0, 400), between(1, 0, 0, 841)}}, api.ErrInfeasible},
		{"a range of three at its end", net.Network{Bodies: []net.Body{body("a", 0, 0, 0, 0), body("b", 0, 100, 0, 0), body("c", 50, 100, 0, 0)}, Ranges: []net.Range{between(2, 1, 0, 400), between(1, 0, 0, 900)}}, api.OK},
	} {
		n, e := net.Narrow(x.n)
		if x.e == api.OK {
			same(t, "Narrow of "+x.what, e, x.e)
			continue
		}
		fails(t, "Narrow of "+x.what, n, e, x.e)
	}
	for _, x := range badNetworks() {
		n, e := net.Narrow(x.n)
		fails(t, "Narrow of "+x.what, n, e, x.e)
	}
}

// P2.2: Narrow of small networks, by the definition.
func TestNarrowSmall(t *testing.T) {
	r := random(3)
	feasible := 0
	for range 600 {
		n := r.network()
		order := others(len(n.Ranges), nil)
		slices.Reverse(order)
		want, is := narrowedOf(n, order)
		got, e := net.Narrow(n)
		if !is {
			fails(t, "Narrow", got, e, api.ErrInfeasible)
			continue
		}
		feasible++
		ok(t, "Narrow", e)
		same(t, "Narrow", got, want)
	}
	if feasible < 100 || feasible > 500 {
		t.Errorf("%d of the networks are feasible", feasible)
	}
}

// P2.2: Places.
func TestPlaces(t *testing.T) {
	five := []api.Point{at(100, -20), at(100, -10), at(100, 0), at(100, 10), at(100, 20)}
	for _, x := range []struct {
		what       string
		n          net.Network
		body, step int
		want       []api.Point
	}{
		{"N", towed(), 1, 10, five},
		{"N with a third range", towed(between(0, 2, 44100, 48400)), 1, 10, five},
		{"N with a range that nothing keeps", towed(between(0, 2, 0, 10000)), 1, 10, nil},
		{"the vessel", towed(), 0, 10, []api.Point{at(0, 0)}},
		{"the tail by a wide step", towed(), 2, 100, []api.Point{at(200, 0)}},
		{"the vessel by the widest step", towed(), 0, 100000, nil},
		{"a body alone", net.Network{Bodies: []net.Body{body("a", -3, 3, -2, 1)}}, 0, 2, []api.Point{at(-2, -2), at(-2, 0), at(0, -2), at(0, 0), at(2, -2), at(2, 0)}},
		{"negative numbers", net.Network{Bodies: []net.Body{body("a", -7, -5, -10, -9)}}, 0, 5, []api.Point{at(-5, -10)}},
		{"no lattice points", net.Network{Bodies: []net.Body{body("a", 1, 4, 0, 0)}}, 0, 5, nil},
		{"no lattice points by Y", net.Network{Bodies: []net.Body{body("a", 0, 0, -4, -1)}}, 0, 5, nil},
		{"one place by many placings", net.Network{Bodies: []net.Body{body("a", 0, 0, 0, 0), body("b", -9, 9, -9, 9)}}, 0, 1, []api.Point{at(0, 0)}},
		{"the ends of the sea", net.Network{Bodies: []net.Body{body("a", -100000, 100000, -100000, 100000)}}, 0, 100000, []api.Point{at(-100000, -100000), at(-100000, 0), at(-100000, 100000), at(0, -100000), at(0, 0), at(0, 100000), at(100000, -100000), at(100000, 0), at(100000, 100000)}},
	} {
		l, e := net.Places(x.n, x.body, x.step)
		ok(t, "Places of "+x.what, e)
		same(t, "Places of "+x.what, l, x.want)
	}
	r := random(4)
	found := 0
	for range 400 {
		n := r.network()
		body, step := r.below(len(n.Bodies)), 1+r.below(4)
		if len(placingsOf(n, step)) > 2000 {
			continue
		}
		l, e := net.Places(n, body, step)
		ok(t, "Places", e)
		same(t, "Places", l, placesOf(n, body, step))
		found += len(l)
	}
	if found < 100 {
		t.Errorf("only %d places were found", found)
	}
}

// P2.2: the errors of Places.
func TestPlacesErrors(t *testing.T) {
	for _, x := range badNetworks() {
		l, e := net.Places(x.n, -1, 0)
		fails(t, "Places of "+x.what, l, e, x.e)
	}
	for _, x := range []struct {
		body, step int
		e          api.Errno
	}{
		{3, 10, api.ErrUnknown}, {-1, 10, api.ErrUnknown}, {math.MinInt, 10, api.ErrUnknown}, {math.MaxInt, 10, api.ErrUnknown}, {3, 0, api.ErrUnknown}, {-1, 1, api.ErrUnknown},
		{2, 0, api.ErrRange}, {2, -1, api.ErrRange}, {2, 100001, api.ErrRange}, {2, math.MinInt, api.ErrRange}, {2, math.MaxInt, api.ErrRange},
		{2, 1, api.ErrLimit}, {0, 1, api.ErrLimit},
	} {
		l, e := net.Places(towed(), x.body, x.step)
		fails(t, "Places", l, e, x.e)
	}
}

// limit is a network with a number of lattice placings that is near the limit, or where this is not easily seen.
type limit struct {
	what string
	n    net.Network
	step int
	e    api.Errno // ErrInfeasible if there are none
}

func limits() []limit {
	sea := box(-100000, 100000, -100000, 100000)
	named := func(l ...net.Box) net.Network {
		n := net.Network{Bodies: crowd(len(l))}
		for i := range l {
			n.Bodies[i].Box = l[i]
		}
		return n
	}
	return []limit{
		{"65536 placings of one body", named(box(0, 255, 0, 255)), 1, api.OK},
		{"65536 placings of eight bodies", named(slices.Repeat([]net.Box{box(0, 3, 0, 0)}, 8)...), 1, api.OK},
		{"65537 placings", named(box(0, 65536, 0, 0)), 1, api.ErrLimit},
		{"65536 placings by a step", named(box(-1, 65538, 0, 2)), 3, api.OK},
		{"65792 placings", named(box(0, 256, 0, 255)), 1, api.ErrLimit},
		{"65792 placings of two bodies", named(box(0, 255, 1, 1), box(1, 1, 0, 256)), 1, api.ErrLimit},
		{"all of the sea", named(sea), 1, api.ErrLimit},
		{"all of the sea for eight bodies", named(slices.Repeat([]net.Box{sea}, 8)...), 1, api.ErrLimit},
		{"the sea eight times, by a step", named(slices.Repeat([]net.Box{sea}, 8)...), 50000, api.ErrLimit},
		// 2^64 placings
		{"256 places for eight bodies", named(slices.Repeat([]net.Box{box(0, 15, 0, 15)}, 8)...), 1, api.ErrLimit},
		{"all of the sea, and nothing", named(sea, box(1, 1, 0, 0)), 2, api.ErrInfeasible},
		{"nothing, and all of the sea", named(box(1, 1, 0, 0), sea, sea, sea, sea, sea, sea, sea), 2, api.ErrInfeasible},
		{"all of the sea, and nothing behind it", named(sea, sea, sea, sea, sea, sea, sea, box(0, 0, -1, -1)), 2, api.ErrInfeasible},
	}
}

// P2.2: the limit of Places.
func TestPlacesLimit(t *testing.T) {
	for _, x := range limits() {
		l, e := net.Places(x.n, 0, x.step)
		switch x.e {
		case api.OK:
			ok(t, "Places of "+x.what, e)
		case api.ErrInfeasible:
			ok(t, "Places of "+x.what, e)
			same(t, "Places of "+x.what, l, []api.Point{})
		default:
			fails(t, "Places of "+x.what, l, e, x.e)
		}
	}
}
