package net

import (
	"slices"

	"moveout/api"
	"moveout/common"
)

// reach is how far from 0 a coordinate of a node can be, in any shape of a streamer with a fix.
const reach = api.MaxPlace + MaxNodes*MaxStep

// CheckStreamer returns the first error of a streamer, or OK.
func CheckStreamer(s Streamer) api.Errno {
	if e := common.First(common.CheckRange(s.Nodes, 2, MaxNodes), common.CheckInterval(s.Along, 0, MaxStep), common.CheckRange(s.Side, 0, MaxStep)); e != api.OK {
		return e
	}
	if len(s.Fixes) > MaxFixes {
		return api.ErrMany
	}
	return common.FirstOf(s.Fixes, func(f Fix) api.Errno {
		return common.First(common.CheckIndex(f.Node, s.Nodes), CheckBox(f.Box))
	})
}

// links returns the links of each node with the one before it.
func links(s Streamer) []link {
	var l []link
	for i := range s.Nodes - 1 {
		l = append(l, link{a: i, b: i + 1, by: ends{s.Along.Low, s.Along.High, -s.Side, s.Side}})
	}
	return l
}

// Regions returns the regions of all nodes of a streamer.
func Regions(s Streamer) ([]Box, api.Errno) {
	if e := CheckStreamer(s); e != api.OK {
		return nil, e
	}
	if len(s.Fixes) == 0 {
		return nil, api.ErrNone
	}
	l := slices.Repeat([]Box{ends{-reach, reach, -reach, reach}.box()}, s.Nodes)
	for _, f := range s.Fixes {
		l[f.Node] = endsOf(l[f.Node]).cut(endsOf(f.Box)).box()
	}
	settle(l, links(s))
	if slices.ContainsFunc(l, Box.isEmpty) {
		return nil, api.ErrInfeasible
	}
	return l, api.OK
}

// Shape returns a shape in which a node has a point.
func Shape(s Streamer, node int, p api.Point) ([]api.Point, api.Errno) {
	if e := common.First(CheckStreamer(s), common.CheckIndex(node, s.Nodes)); e != api.OK {
		return nil, e
	}
	l, e := Regions(s)
	if e != api.OK {
		return nil, e
	}
	if !l[node].holds(p) {
		return nil, api.ErrSpan
	}
	l[node] = spot(p).box()
	settle(l, links(s))
	// The corners are a shape: if a step between two of them were not permitted, one of both boxes could still be cut.
	return common.Each(l, Box.corner), api.OK
}

// CheckShape returns OK for a shape.
func CheckShape(s Streamer, l []api.Point) api.Errno {
	if e := CheckStreamer(s); e != api.OK {
		return e
	}
	if len(l) != s.Nodes {
		return api.ErrShape
	}
	for i := range s.Nodes - 1 {
		if !s.permits(l[i], l[i+1]) {
			return api.ErrRule
		}
	}
	for _, f := range s.Fixes {
		if !f.Box.holds(l[f.Node]) {
			return api.ErrSpan
		}
	}
	return api.OK
}

// permits reports whether a node may have a point if the node before it has another one.
func (s Streamer) permits(before, p api.Point) bool {
	along, side := apart(before.X, p.X), apart(before.Y, p.Y)
	return before.X <= p.X && along >= uint(s.Along.Low) && along <= uint(s.Along.High) && side <= uint(s.Side)
}

// apart returns the distance of two integers, which may be too large for an int.
func apart(x, y int) uint {
	return uint(max(x, y)) - uint(min(x, y))
}
