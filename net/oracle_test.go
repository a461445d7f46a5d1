package net_test

import (
	"slices"

	"moveout/api"
	"moveout/net"
)

// The functions of this file follow the definitions of the chapter word by word, for small arguments.

// pointsOf returns all points of a small box whose X and Y are multiples of a step, by X, then by Y.
func pointsOf(b net.Box, step int) []api.Point {
	var l []api.Point
	for x := b.X.Low; x <= b.X.High; x++ {
		for y := b.Y.Low; y <= b.Y.High; y++ {
			if x%step == 0 && y%step == 0 {
				l = append(l, at(x, y))
			}
		}
	}
	return l
}

// placingsOf returns all lattice placings of a small network.
func placingsOf(n net.Network, step int) [][]api.Point {
	all := [][]api.Point{nil}
	for _, b := range n.Bodies {
		var longer [][]api.Point
		for _, l := range all {
			for _, p := range pointsOf(b.Box, step) {
				longer = append(longer, append(slices.Clone(l), p))
			}
		}
		all = longer
	}
	return all
}

func squaredDistance(a, b api.Point) int {
	return (a.X-b.X)*(a.X-b.X) + (a.Y-b.Y)*(a.Y-b.Y)
}

// unkeptBy returns the ranges that a placing does not keep.
func unkeptBy(n net.Network, placing []api.Point) []int {
	var l []int
	for i, r := range n.Ranges {
		d := squaredDistance(placing[r.A], placing[r.B])
		if d < r.Square.Low || d > r.Square.High {
			l = append(l, i)
		}
	}
	return l
}

// missed returns, for each lattice placing, the ranges that it does not keep.
func missed(n net.Network, step int) [][]int {
	var l [][]int
	for _, p := range placingsOf(n, step) {
		l = append(l, unkeptBy(n, p))
	}
	return l
}

// conflicting reports whether no placing keeps all of some ranges.
func conflicting(missed [][]int, ranges []int) bool {
	for _, l := range missed {
		if !slices.ContainsFunc(l, func(i int) bool { return slices.Contains(ranges, i) }) {
			return false
		}
	}
	return true
}

// subsets returns all lists of so many of the integers from 0 on before n, the first ones first.
func subsets(n, size int) [][]int {
	all := [][]int{nil}
	for range size {
		var longer [][]int
		for _, l := range all {
			from := 0
			if len(l) > 0 {
				from = l[len(l)-1] + 1
			}
			for i := from; i < n; i++ {
				longer = append(longer, append(slices.Clone(l), i))
			}
		}
		all = longer
	}
	return all
}

// others returns the integers from 0 on before n that are not in a list.
func others(n int, l []int) []int {
	var out []int
	for i := range n {
		if !slices.Contains(l, i) {
			out = append(out, i)
		}
	}
	return out
}

// badOf returns the bad ranges: of all lists, the smaller ones first, the first one without which there is a placing.
func badOf(n net.Network, missed [][]int) []int {
	for size := range len(n.Ranges) + 1 {
		for _, l := range subsets(len(n.Ranges), size) {
			if !conflicting(missed, others(len(n.Ranges), l)) {
				return l
			}
		}
	}
	return nil
}

// conflictOf returns the first conflict.
func conflictOf(n net.Network, missed [][]int) []int {
	left := others(len(n.Ranges), nil)
	for i := range n.Ranges {
		rest := slices.DeleteFunc(slices.Clone(left), func(x int) bool { return x == i })
		if conflicting(missed, rest) {
			left = rest
		}
	}
	return left
}

// placesOf returns the places of a body.
func placesOf(n net.Network, body, step int) []api.Point {
	var l []api.Point
	for _, p := range pointsOf(n.Bodies[body].Box, step) {
		for _, q := range placingsOf(n, step) {
			if q[body] == p && len(unkeptBy(n, q)) == 0 {
				l = append(l, p)
				break
			}
		}
	}
	return l
}

// rootOf returns the root of a small number.
func rootOf(n int) int {
	r := 0
	for (r+1)*(r+1) <= n {
		r++
	}
	return r
}

func cutTo(i, by api.Interval, r int) api.Interval {
	return span(max(i.Low, by.Low-r), min(i.High, by.High+r))
}

// narrowedOf returns the narrowed network of a small one, or false if it is infeasible; the ranges are used in the order of a list.
func narrowedOf(n net.Network, order []int) (net.Network, bool) {
	n = clone(n)
	for range 100 {
		for _, i := range order {
			r := n.Ranges[i]
			x := rootOf(r.Square.High)
			a, b := n.Bodies[r.A].Box, n.Bodies[r.B].Box
			n.Bodies[r.A].Box = net.Box{X: cutTo(a.X, b.X, x), Y: cutTo(a.Y, b.Y, x)}
			a = n.Bodies[r.A].Box
			n.Bodies[r.B].Box = net.Box{X: cutTo(b.X, a.X, x), Y: cutTo(b.Y, a.Y, x)}
		}
	}
	for _, b := range n.Bodies {
		if len(pointsOf(b.Box, 1)) == 0 {
			return net.Network{}, false
		}
	}
	for _, r := range n.Ranges {
		s := squaresOf(n.Bodies[r.A].Box, n.Bodies[r.B].Box)
		if s.High < r.Square.Low || s.Low > r.Square.High {
			return net.Network{}, false
		}
	}
	return n, true
}

// squaresOf returns the least and the greatest squared distance of two small boxes.
func squaresOf(a, b net.Box) api.Interval {
	var l []int
	for _, p := range pointsOf(a, 1) {
		for _, q := range pointsOf(b, 1) {
			l = append(l, squaredDistance(p, q))
		}
	}
	return span(slices.Min(l), slices.Max(l))
}

// coordinatesOf returns, for each node of a chain, the integers that it has in all shapes, ascending; the step from one node to the next is from least to most, and a node n has an integer only if it may.
func coordinatesOf(nodes, least, most int, may func(n, x int) bool) [][]int {
	const far = 200
	ahead, back := make([][]int, nodes), make([][]int, nodes)
	for n := range nodes {
		for x := -far; x <= far; x++ {
			near := func(y int) bool { return y >= x-most && y <= x-least }
			if may(n, x) && (n == 0 || slices.ContainsFunc(ahead[n-1], near)) {
				ahead[n] = append(ahead[n], x)
			}
		}
	}
	for n := nodes - 1; n >= 0; n-- {
		for _, x := range ahead[n] {
			near := func(y int) bool { return y >= x+least && y <= x+most }
			if n == nodes-1 || slices.ContainsFunc(back[n+1], near) {
				back[n] = append(back[n], x)
			}
		}
	}
	return back
}

// regionsOf returns the regions of a small streamer with a fix near 0, or false if it has no shape.
func regionsOf(s net.Streamer) ([]net.Box, bool) {
	xs := coordinatesOf(s.Nodes, s.Along.Low, s.Along.High, func(n, x int) bool {
		return !slices.ContainsFunc(s.Fixes, func(f net.Fix) bool { return f.Node == n && (x < f.Box.X.Low || x > f.Box.X.High) })
	})
	ys := coordinatesOf(s.Nodes, -s.Side, s.Side, func(n, y int) bool {
		return !slices.ContainsFunc(s.Fixes, func(f net.Fix) bool { return f.Node == n && (y < f.Box.Y.Low || y > f.Box.Y.High) })
	})
	var l []net.Box
	for n := range s.Nodes {
		if len(xs[n]) == 0 || len(ys[n]) == 0 {
			return nil, false
		}
		l = append(l, box(xs[n][0], xs[n][len(xs[n])-1], ys[n][0], ys[n][len(ys[n])-1]))
	}
	return l, true
}

// isShape reports whether points, small integers, are a shape.
func isShape(s net.Streamer, l []api.Point) bool {
	if len(l) != s.Nodes {
		return false
	}
	for i := 1; i < len(l); i++ {
		x, y := l[i].X-l[i-1].X, l[i].Y-l[i-1].Y
		if x < s.Along.Low || x > s.Along.High || y < -s.Side || y > s.Side {
			return false
		}
	}
	for _, f := range s.Fixes {
		if !inside(l[f.Node], f.Box) {
			return false
		}
	}
	return true
}

// inside reports whether a point is in a box.
func inside(p api.Point, b net.Box) bool {
	return p.X >= b.X.Low && p.X <= b.X.High && p.Y >= b.Y.Low && p.Y <= b.Y.High
}
