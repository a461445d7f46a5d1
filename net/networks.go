package net

import (
	"slices"

	"moveout/api"
	"moveout/common"
	"moveout/trace"
)

// CheckNetwork returns the first error of a network, or OK.
func CheckNetwork(n Network) api.Errno {
	if e := common.CheckCount(len(n.Bodies), MaxBodies); e != api.OK {
		return e
	}
	for i := range n.Bodies {
		if e := checkBody(n.Bodies[:i], n.Bodies[i]); e != api.OK {
			return e
		}
	}
	if len(n.Ranges) > MaxRanges {
		return api.ErrMany
	}
	return common.FirstOf(n.Ranges, func(r Range) api.Errno { return checkRange(r, len(n.Bodies)) })
}

// checkBody returns the first error of a body behind others, or OK.
func checkBody(before []Body, b Body) api.Errno {
	if !trace.IsName(b.Name) {
		return api.ErrName
	}
	if slices.ContainsFunc(before, func(x Body) bool { return x.Name == b.Name }) {
		return api.ErrTwice
	}
	return CheckBox(b.Box)
}

// checkRange returns the first error of a range between some bodies, or OK.
func checkRange(r Range, bodies int) api.Errno {
	if e := common.First(common.CheckIndex(r.A, bodies), common.CheckIndex(r.B, bodies)); e != api.OK {
		return e
	}
	if r.A == r.B {
		return api.ErrTwice
	}
	return common.CheckInterval(r.Square, 0, MaxSquare)
}

// checkIndices returns the first error of a list of ranges, or OK.
func checkIndices(l []int, ranges int) api.Errno {
	if len(l) > MaxRanges {
		return api.ErrMany
	}
	return common.CheckIndices(l, ranges)
}

// checkPlacing returns the first error of a placing of a network, or OK.
func checkPlacing(n Network, placing []api.Point) api.Errno {
	if len(placing) != len(n.Bodies) {
		return api.ErrShape
	}
	for i, b := range n.Bodies {
		if !b.Box.holds(placing[i]) {
			return api.ErrSpan
		}
	}
	return api.OK
}

// Unkept returns the ranges that a placing does not keep.
func Unkept(n Network, placing []api.Point) ([]int, api.Errno) {
	if e := common.First(CheckNetwork(n), checkPlacing(n, placing)); e != api.OK {
		return nil, e
	}
	return unkept(n, placing), api.OK
}

func unkept(n Network, placing []api.Point) []int {
	var l []int
	for i, r := range n.Ranges {
		if !common.IsIn(common.Squared(placing[r.A], placing[r.B]), r.Square) {
			l = append(l, i)
		}
	}
	return l
}

// boxes returns the boxes of all bodies.
func boxes(n Network) []Box {
	return common.Each(n.Bodies, func(b Body) Box { return b.Box })
}

// withBoxes returns a copy of a network in which the bodies have other boxes.
func withBoxes(n Network, l []Box) Network {
	out := Network{Bodies: make([]Body, len(n.Bodies)), Ranges: make([]Range, len(n.Ranges))}
	copy(out.Bodies, n.Bodies)
	copy(out.Ranges, n.Ranges)
	for i := range out.Bodies {
		out.Bodies[i].Box = l[i]
	}
	return out
}

// Without returns a network without some of its ranges.
func Without(n Network, l []int) (Network, api.Errno) {
	if e := common.First(CheckNetwork(n), checkIndices(l, len(n.Ranges))); e != api.OK {
		return Network{}, e
	}
	out := withBoxes(n, boxes(n))
	// From the last one on, so that the indices before it stay what they are.
	for _, i := range slices.Backward(l) {
		out.Ranges = slices.Delete(out.Ranges, i, i+1)
	}
	return out, api.OK
}

// Shifted returns a network that is moved by a point.
func Shifted(n Network, by api.Point) (Network, api.Errno) {
	if e := common.First(CheckNetwork(n), checkPlace(by.X), checkPlace(by.Y)); e != api.OK {
		return Network{}, e
	}
	moved := common.Each(boxes(n), func(b Box) Box { return endsOf(b).plus(spot(by)).box() })
	// A box stays in order when it is moved: its only error can be that an end is too large.
	if common.FirstOf(moved, CheckBox) != api.OK {
		return Network{}, api.ErrLarge
	}
	return withBoxes(n, moved), api.OK
}

func checkPlace(x int) api.Errno {
	return common.CheckRange(x, -api.MaxPlace, api.MaxPlace)
}

// Mirrored returns a network with opposite X.
func Mirrored(n Network) (Network, api.Errno) {
	if e := CheckNetwork(n); e != api.OK {
		return Network{}, e
	}
	return withBoxes(n, common.Each(boxes(n), func(b Box) Box { return endsOf(b).mirrored().box() })), api.OK
}
