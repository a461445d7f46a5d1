package net_test

import (
	"math"
	"reflect"
	"slices"
	"strings"
	"testing"

	"moveout/api"
	"moveout/net"
)

// oddNetworks returns networks of any form.
func oddNetworks() []net.Network {
	l := []net.Network{towed(), {Bodies: crowd(8)}, {Bodies: make([]net.Body, 100000)}, {Bodies: crowd(8), Ranges: make([]net.Range, 100000)}, crossed(span(0, 2), span(4, 6)), chain(others(7, nil))}
	for _, x := range badNetworks() {
		l = append(l, x.n)
	}
	for _, x := range limits() {
		if x.e != api.OK {
			l = append(l, x.n)
		}
	}
	for _, n := range []int{math.MinInt, math.MaxInt, math.MinInt + 1} {
		l = append(l,
			changed(func(m *net.Network) { m.Bodies[1].Box = box(n, n, n, n) }),
			changed(func(m *net.Network) { m.Bodies[1].Box = box(math.MinInt, n, n, math.MaxInt) }),
			changed(func(m *net.Network) { m.Ranges[0] = between(n, n, n, n) }),
			changed(func(m *net.Network) { m.Ranges[0] = between(0, 1, n, n) }),
			changed(func(m *net.Network) { m.Ranges[0] = between(0, n, 0, 0) }))
	}
	return l
}

func oddBoxes() []net.Box {
	l := []net.Box{{}, box(-100000, 100000, -100000, 100000), box(0, 10, 0, 10)}
	for _, x := range badBoxes() {
		l = append(l, x.b)
	}
	return l
}

func oddStreamers() []net.Streamer {
	l := []net.Streamer{towline(), {Nodes: 2}, {Nodes: 64, Along: span(0, 1000), Side: 1000, Fixes: []net.Fix{fix(63, -100000, 100000, -100000, 100000)}}, {Nodes: 64, Along: span(1000, 1000), Fixes: slices.Repeat([]net.Fix{fix(0, 1, 1, 1, 1), fix(63, 0, 0, 0, 0)}, 32)}, {Nodes: 2, Fixes: make([]net.Fix, 100000)}}
	for _, x := range badStreamers() {
		l = append(l, x.s)
	}
	return l
}

func oddMovers() []net.Mover {
	l := []net.Mover{{}, adrift(box(-100000, 100000, -100000, 100000), -100, 100, -100, 100)}
	for _, x := range badMovers() {
		l = append(l, x.m)
	}
	return l
}

func oddStrings() []string {
	return []string{"", "\n", " ", "\x00", "\xff\xfe", "body", "range", "body \n", towedText, towedText + towedText, strings.Repeat("\n", 4096), strings.Repeat(" ", 4096), "body " + strings.Repeat("x ", 2000), strings.Repeat("body a 0 0 0 0\n", 270), strings.Repeat("range 0 1 0 0\n", 290), "body a -99999999999 99999999999 99999999999 -99999999999\n", strings.Repeat("x", 1000000)}
}

// P1: no function panics, and together with an error every other result is its zero value.
func TestOddArguments(t *testing.T) {
	numbers := []int{math.MinInt, -100001, -1, 0, 1, 2, 5, 63, 64, 1000, 1001, 100000, 100001, 80000000000, 80000000001, math.MaxInt}
	var points []api.Point
	for _, n := range numbers {
		points = append(points, at(n, n), at(n, 0), at(0, n))
	}
	placings := [][]api.Point{nil, points, points[:3], points[:5], make([]api.Point, 3), make([]api.Point, 8), make([]api.Point, 100000)}
	lists := [][]int{nil, {}, {0}, {0, 1}, {1, 0}, numbers, {math.MinInt}, {math.MaxInt}, make([]int, 24), make([]int, 100000)}
	steps := []int{math.MinInt, -1, 0, 2, 10, 100000, 100001, math.MaxInt}
	combine(t, net.CheckBox, oddBoxes())
	combine(t, net.Squares, oddBoxes(), oddBoxes())
	combine(t, net.CheckNetwork, oddNetworks())
	combine(t, net.Unkept, oddNetworks(), placings)
	combine(t, net.Narrow, oddNetworks())
	combine(t, net.Places, oddNetworks(), []int{math.MinInt, -1, 0, 1, 7, 8, math.MaxInt}, steps)
	combine(t, net.Bad, oddNetworks(), steps)
	combine(t, net.Conflict, oddNetworks(), steps)
	combine(t, net.CheckConflict, oddNetworks(), steps, lists)
	combine(t, net.Without, oddNetworks(), lists)
	combine(t, net.CheckStreamer, oddStreamers())
	combine(t, net.Regions, oddStreamers())
	combine(t, net.Shape, oddStreamers(), numbers, points)
	combine(t, net.CheckShape, oddStreamers(), append(placings, points[:2], make([]api.Point, 64)))
	combine(t, net.Drift, oddMovers(), numbers)
	for _, m := range oddMovers() {
		combine(t, net.Meeting, [][]net.Mover{nil, {m}, {m, m}, {{}, m}, slices.Repeat([]net.Mover{m}, 8), slices.Repeat([]net.Mover{m}, 1000)}, numbers, numbers)
	}
	combine(t, net.Shifted, oddNetworks(), points)
	combine(t, net.Mirrored, oddNetworks())
	combine(t, net.Print, oddNetworks())
	combine(t, net.Parse, oddStrings())
}

// combine calls a function with all combinations of the elements of some lists.
func combine(t *testing.T, f any, lists ...any) {
	t.Helper()
	v := reflect.ValueOf(f)
	args := make([]reflect.Value, len(lists))
	var choose func(i int)
	choose = func(i int) {
		if i == len(lists) {
			zeroBeside(t, v.Call(args))
			return
		}
		l := reflect.ValueOf(lists[i])
		for j := range l.Len() {
			args[i] = l.Index(j)
			choose(i + 1)
		}
	}
	choose(0)
}

// zeroBeside checks that all results beside an error are zero, but for the index of Parse.
func zeroBeside(t *testing.T, out []reflect.Value) {
	t.Helper()
	last := len(out) - 1
	if e, is := out[last].Interface().(api.Errno); !is || e == api.OK {
		return
	}
	for i, x := range out[:last] {
		index := i == 1 && x.Kind() == reflect.Int
		if empty := reflect.ValueOf(plain(x.Interface())); !index && !empty.IsZero() {
			t.Errorf("a result beside the error %v is %v", out[last], x)
		}
	}
}

// networkFunctions are the functions that make a network of another one, each with what leaves as much of it as there can be left.
func networkFunctions() []func(n net.Network) (net.Network, api.Errno) {
	return []func(n net.Network) (net.Network, api.Errno){
		net.Narrow,
		net.Mirrored,
		func(n net.Network) (net.Network, api.Errno) { return net.Shifted(n, api.Point{}) },
		func(n net.Network) (net.Network, api.Errno) { return net.Without(n, nil) },
		func(n net.Network) (net.Network, api.Errno) { return net.Without(n, []int{0}) },
	}
}

// The rule 'Memory': networks are not changed, and what is made of them shares no memory with them.
func TestMemoryOfNetworks(t *testing.T) {
	for i, f := range networkFunctions() {
		n := towed()
		n.Bodies = slices.Grow(n.Bodies, 3)
		n.Ranges = slices.Grow(n.Ranges, 3)
		m, e := f(n)
		ok(t, "a network", e)
		same(t, "the argument", []any{i, plain(n)}, []any{i, plain(towed())})
		want := clone(m)
		for j := range m.Bodies {
			m.Bodies[j] = body("changed", 9, 9, 9, 9)
		}
		for j := range m.Ranges {
			m.Ranges[j] = between(7, 7, 7, 7)
		}
		_ = append(m.Bodies, body("more", 9, 9, 9, 9))
		_ = append(m.Ranges, between(7, 7, 7, 7))
		same(t, "the argument when the result is changed", []any{i, plain(n)}, []any{i, plain(towed())})
		for _, b := range n.Bodies[:cap(n.Bodies)] {
			same(t, "the place behind the bodies", b.Name == "more", false)
		}
		for _, r := range n.Ranges[:cap(n.Ranges)] {
			same(t, "the place behind the ranges", r.A == 7, false)
		}
		again, e := f(n)
		ok(t, "a network again", e)
		same(t, "the result again", again, want)
		for j := range n.Bodies {
			n.Bodies[j].Box = box(5, 5, 5, 5)
		}
		clear(n.Ranges)
		same(t, "the result when the argument is changed", again, want)
	}
}

// The rule 'Memory' for all other arguments and results.
func TestMemoryOfOthers(t *testing.T) {
	n, indices := towed(between(0, 2, 0, 10000)), []int{2}
	placing := []api.Point{at(0, 0), at(95, 0), at(200, 0)}
	_, e := net.Unkept(n, placing)
	ok(t, "Unkept", e)
	_, e = net.Without(n, indices)
	ok(t, "Without", e)
	l, e := net.Conflict(n, 10)
	ok(t, "Conflict", e)
	l[0] = 7
	same(t, "CheckConflict", net.CheckConflict(n, 10, indices), api.OK)
	_, e = net.Bad(n, 10)
	ok(t, "Bad", e)
	_, e = net.Places(n, 1, 10)
	ok(t, "Places", e)
	same(t, "the network", n, towed(between(0, 2, 0, 10000)))
	same(t, "the indices", indices, []int{2})
	same(t, "the placing", placing, []api.Point{at(0, 0), at(95, 0), at(200, 0)})
	s := towline()
	b, e := net.Regions(s)
	ok(t, "Regions", e)
	clear(b)
	p, e := net.Shape(s, 2, at(22, 1))
	ok(t, "Shape", e)
	kept := slices.Clone(p)
	same(t, "CheckShape", net.CheckShape(s, p), api.OK)
	same(t, "the shape", p, kept)
	same(t, "the streamer", reflect.DeepEqual(s, towline()), true)
	movers := []net.Mover{sailing(0, 0, 1, 1), sailing(9, 9, 0, 0)}
	_, _, e = net.Meeting(movers, 100, 2)
	ok(t, "Meeting", e)
	same(t, "the movers", reflect.DeepEqual(movers, []net.Mover{sailing(0, 0, 1, 1), sailing(9, 9, 0, 0)}), true)
}

// The rule 'Determinism': the same call has the same result again.
func TestSameAgain(t *testing.T) {
	r := random(21)
	for range 30 {
		n := r.network()
		for _, f := range []func() (any, api.Errno){
			func() (any, api.Errno) { l, e := net.Narrow(n); return l, e },
			func() (any, api.Errno) { l, e := net.Places(n, 0, 3); return l, e },
			func() (any, api.Errno) { l, e := net.Bad(n, 3); return l, e },
			func() (any, api.Errno) { l, e := net.Conflict(n, 3); return l, e },
		} {
			x, e1 := f()
			y, e2 := f()
			same(t, "a result again", y, x)
			same(t, "an error again", e2, e1)
		}
	}
}
