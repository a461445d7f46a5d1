package net_test

import (
	"reflect"
	"slices"
	"strings"
	"testing"

	"moveout/api"
	"moveout/net"
)

// same compares a result with the expected one; nil and empty lists are equal.
func same(t *testing.T, what string, got, want any) {
	t.Helper()
	if !reflect.DeepEqual(plain(got), plain(want)) {
		t.Errorf("%s: got %v, want %v", what, got, want)
	}
}

// plain returns a value with nil in place of empty lists, as far as the tests compare such values.
func plain(x any) any {
	switch v := x.(type) {
	case net.Network:
		return clone(v)
	case []net.Box:
		return append([]net.Box(nil), v...)
	case []api.Point:
		return append([]api.Point(nil), v...)
	case []int:
		return append([]int(nil), v...)
	}
	return x
}

// ok fails the test if there is an error.
func ok(t *testing.T, what string, e api.Errno) {
	t.Helper()
	if e != api.OK {
		t.Fatalf("%s: got the error %d", what, e)
	}
}

// fails checks that a result has an error, and is the zero value.
func fails(t *testing.T, what string, got any, e, want api.Errno) {
	t.Helper()
	if e != want {
		t.Errorf("%s: got the error %d, want %d", what, e, want)
	}
	if v := reflect.ValueOf(plain(got)); e != api.OK && !v.IsZero() {
		t.Errorf("%s: got %v beside the error %d", what, got, e)
	}
}

// clone returns a network that shares nothing with another one; empty lists are nil.
func clone(n net.Network) net.Network {
	return net.Network{Bodies: append([]net.Body(nil), n.Bodies...), Ranges: append([]net.Range(nil), n.Ranges...)}
}

func span(low, high int) api.Interval { return api.Interval{Low: low, High: high} }

// box returns the box with these ends of X and Y.
func box(a, b, c, d int) net.Box { return net.Box{X: span(a, b), Y: span(c, d)} }

func at(x, y int) api.Point { return api.Point{X: x, Y: y} }

func body(name string, a, b, c, d int) net.Body {
	return net.Body{Name: name, Box: box(a, b, c, d)}
}

func between(a, b, low, high int) net.Range {
	return net.Range{A: a, B: b, Square: span(low, high)}
}

// towed returns the network N of the chapter, with further ranges.
func towed(more ...net.Range) net.Network {
	return net.Network{
		Bodies: []net.Body{body("vessel", 0, 0, 0, 0), body("buoy", 90, 110, -20, 20), body("tail", 180, 220, -30, 30)},
		Ranges: append([]net.Range{between(0, 1, 10000, 10816), between(1, 2, 8100, 12100)}, more...),
	}
}

// changed returns the network N with a change.
func changed(change func(n *net.Network)) net.Network {
	n := towed()
	change(&n)
	return n
}

// boxes returns the boxes of a network.
func boxes(n net.Network) []net.Box {
	var l []net.Box
	for _, b := range n.Bodies {
		l = append(l, b.Box)
	}
	return l
}

// badBox is a box that is none, with its error.
type badBox struct {
	b net.Box
	e api.Errno
}

// badBoxes returns boxes with each error of CheckBox, and with two where their order matters.
func badBoxes() []badBox {
	l := []badBox{
		{box(1, 0, 0, 0), api.ErrOrder}, {box(0, 0, 1, 0), api.ErrOrder}, {box(2, 1, 2, 1), api.ErrOrder}, {box(100000, -100000, 0, 0), api.ErrOrder},
		{box(1, 0, 0, 100001), api.ErrRange}, {box(1, 0, -100001, 0), api.ErrRange}, {box(100001, 0, 0, 0), api.ErrRange}, {box(0, -100001, 0, 0), api.ErrRange}, {box(0, 0, 100001, 0), api.ErrRange},
	}
	for _, x := range []int{-100001, 100001, -1 << 63, 1<<63 - 1} {
		l = append(l, badBox{box(x, x, 0, 0), api.ErrRange}, badBox{box(0, 0, x, x), api.ErrRange})
		for i := range 4 {
			e := [4]int{-100000, 100000, -100000, 100000}
			e[i] = x
			l = append(l, badBox{box(e[0], e[1], e[2], e[3]), api.ErrRange})
		}
	}
	return l
}

// badNetwork is a network that is none, with its error.
type badNetwork struct {
	what string
	n    net.Network
	e    api.Errno
}

// crowd returns bodies with different names.
func crowd(count int) []net.Body {
	var l []net.Body
	for i := range count {
		l = append(l, body("b"+strings.Repeat("_", i), i, i, 0, 0))
	}
	return l
}

// badNetworks returns networks with each error of CheckNetwork, and with two where their order matters.
func badNetworks() []badNetwork {
	l := []badNetwork{
		{"nothing", net.Network{}, api.ErrEmpty},
		{"no bodies before a bad range", net.Network{Ranges: []net.Range{between(0, 0, 5, 4)}}, api.ErrEmpty},
		{"no bodies before many ranges", net.Network{Ranges: make([]net.Range, 25)}, api.ErrEmpty},
		{"nine bodies", net.Network{Bodies: crowd(9)}, api.ErrMany},
		{"nine bodies before a bad name", net.Network{Bodies: make([]net.Body, 9)}, api.ErrMany},
		{"no name", changed(func(n *net.Network) { n.Bodies[1].Name = "" }), api.ErrName},
		{"a bad name", changed(func(n *net.Network) { n.Bodies[2].Name = "tail-1" }), api.ErrName},
		{"a long name", changed(func(n *net.Network) { n.Bodies[2].Name = strings.Repeat("x", 25) }), api.ErrName},
		{"a bad name twice", changed(func(n *net.Network) { n.Bodies[1].Name, n.Bodies[2].Name = "_", "_" }), api.ErrName},
		{"a bad name before its box", changed(func(n *net.Network) { n.Bodies[1] = body("1", 100001, 0, 0, 0) }), api.ErrName},
		{"a name twice", changed(func(n *net.Network) { n.Bodies[2].Name = "vessel" }), api.ErrTwice},
		{"a name twice, one after the other", changed(func(n *net.Network) { n.Bodies[2].Name = "buoy" }), api.ErrTwice},
		{"a name twice before the box", changed(func(n *net.Network) { n.Bodies[2] = body("buoy", 0, 100001, 0, 0) }), api.ErrTwice},
		{"a box before the next name", changed(func(n *net.Network) { n.Bodies[0].Box, n.Bodies[1].Name = box(1, 0, 0, 0), "" }), api.ErrOrder},
		{"a name twice before the next box", changed(func(n *net.Network) { n.Bodies[1].Name, n.Bodies[2].Box = "vessel", box(1, 0, 0, 0) }), api.ErrTwice},
		{"25 ranges", changed(func(n *net.Network) { n.Ranges = slices.Repeat([]net.Range{between(0, 1, 0, 1)}, 25) }), api.ErrMany},
		{"25 ranges before the first one", changed(func(n *net.Network) { n.Ranges = make([]net.Range, 25) }), api.ErrMany},
		{"a bad body before 25 ranges", changed(func(n *net.Network) { n.Bodies[2].Name, n.Ranges = "", make([]net.Range, 25) }), api.ErrName},
		{"a bad body before a bad range", changed(func(n *net.Network) { n.Bodies[2].Box, n.Ranges[0].A = box(1, 0, 0, 0), -1 }), api.ErrOrder},
	}
	for _, x := range badBoxes() {
		l = append(l, badNetwork{"a bad box", changed(func(n *net.Network) { n.Bodies[1].Box = x.b }), x.e})
	}
	for _, x := range badRanges() {
		l = append(l, badNetwork{"a bad range", changed(func(n *net.Network) { n.Ranges[1] = x.r }), x.e})
		l = append(l, badNetwork{"a bad range before another one", changed(func(n *net.Network) { n.Ranges[0], n.Ranges[1] = x.r, between(0, 0, 0, 0) }), x.e})
	}
	return l
}

type badRange struct {
	r net.Range
	e api.Errno
}

// badRanges returns ranges of the network N with each error of a range, and with two where their order matters.
func badRanges() []badRange {
	return []badRange{
		{between(-1, 0, 0, 0), api.ErrUnknown}, {between(3, 0, 0, 0), api.ErrUnknown}, {between(0, -1, 0, 0), api.ErrUnknown}, {between(0, 3, 0, 0), api.ErrUnknown}, {between(-1<<63, 0, 0, 0), api.ErrUnknown}, {between(0, 1<<63-1, 0, 0), api.ErrUnknown},
		{between(3, 3, 0, 0), api.ErrUnknown}, {between(-1, -1, 2, 1), api.ErrUnknown}, {between(0, 3, -1, 0), api.ErrUnknown},
		{between(1, 1, 0, 0), api.ErrTwice}, {between(0, 0, -1, -1), api.ErrTwice}, {between(2, 2, 2, 1), api.ErrTwice},
		{between(0, 1, -1, 0), api.ErrRange}, {between(0, 1, 0, 80000000001), api.ErrRange}, {between(0, 1, 80000000001, 80000000001), api.ErrRange}, {between(0, 1, -2, -1), api.ErrRange}, {between(0, 1, 0, -1), api.ErrRange}, {between(0, 1, 80000000001, 0), api.ErrRange}, {between(0, 1, -1<<63, 1<<63-1), api.ErrRange},
		{between(0, 1, 1, 0), api.ErrOrder}, {between(0, 1, 80000000000, 79999999999), api.ErrOrder},
	}
}

// random is a sequence of numbers that is the same in each run.
type random uint64

// below returns the next number from 0 to n - 1.
func (r *random) below(n int) int {
	*r = *r*6364136223846793005 + 1442695040888963407
	return int(uint64(*r) >> 33 % uint64(n))
}

// integer returns the next number from -most to most.
func (r *random) integer(most int) int {
	return r.below(2*most+1) - most
}

// box returns a box whose ends are within most, and whose sides are not above side.
func (r *random) box(most, side int) net.Box {
	x, y := r.integer(most), r.integer(most)
	return box(x, x+r.below(side+1), y, y+r.below(side+1))
}

// point returns a point of a box.
func (r *random) point(b net.Box) api.Point {
	return at(b.X.Low+r.below(b.X.High-b.X.Low+1), b.Y.Low+r.below(b.Y.High-b.Y.Low+1))
}

// network returns a small network, of which some have placings that keep all ranges, and some do not.
func (r *random) network() net.Network {
	var n net.Network
	for i := range 2 + r.below(3) {
		n.Bodies = append(n.Bodies, net.Body{Name: "b" + strings.Repeat("_", i), Box: r.box(12, 5)})
	}
	for range r.below(7) {
		a := r.below(len(n.Bodies))
		b := (a + 1 + r.below(len(n.Bodies)-1)) % len(n.Bodies)
		low, high := r.below(100), 60+r.below(300)
		n.Ranges = append(n.Ranges, between(a, b, min(low, high), max(low, high)))
	}
	return n
}
