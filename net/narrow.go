package net

import (
	"slices"
	"sort"

	"moveout/api"
	"moveout/common"
)

// link says by how much the point at the index b is beyond the point at the index a: the differences are a box.
type link struct {
	a, b int
	by   ends
}

// settle cuts each box, by the links, to what the boxes beside it leave of it, until no box becomes any smaller.
//
// It ends: what the links of a cycle add to a Low is never above 0 (to a High never below 0), so each end comes to rest where the shortest way of links leads.
func settle(l []Box, links []link) {
	for narrower := true; narrower; {
		narrower = false
		for _, k := range links {
			a, b := l[k.a], l[k.b]
			l[k.b] = endsOf(b).cut(endsOf(a).plus(k.by)).box()
			l[k.a] = endsOf(a).cut(endsOf(l[k.b]).plus(k.by.opposite())).box()
			narrower = narrower || l[k.a] != a || l[k.b] != b
		}
	}
}

// linkOf returns what a range says of the differences of X and of Y.
func linkOf(r Range) link {
	x := root(r.Square.High)
	return link{a: r.A, b: r.B, by: ends{-x, x, -x, x}}
}

// root returns the root of a number from 0 to MaxSquare.
func root(n int) int {
	// The square of 4 MaxPlace is above MaxSquare.
	return sort.Search(4*api.MaxPlace, func(x int) bool { return (x+1)*(x+1) > n })
}

// Narrow returns the narrowed network.
func Narrow(n Network) (Network, api.Errno) {
	if e := CheckNetwork(n); e != api.OK {
		return Network{}, e
	}
	l := boxes(n)
	settle(l, common.Each(n.Ranges, linkOf))
	if slices.ContainsFunc(l, Box.isEmpty) {
		return Network{}, api.ErrInfeasible
	}
	for _, r := range n.Ranges {
		if s := squares(l[r.A], l[r.B]); s.High < r.Square.Low || s.Low > r.Square.High {
			return Network{}, api.ErrInfeasible
		}
	}
	return withBoxes(n, l), api.OK
}
