package net_test

import (
	"math"
	"slices"
	"testing"

	"moveout/api"
	"moveout/net"
)

// crossed returns a network of one free body by a fixed one: the free body has the X 0 to 9, and each range wants some of these.
func crossed(wanted ...api.Interval) net.Network {
	n := net.Network{Bodies: []net.Body{body("fixed", 0, 0, 0, 0), body("free", 0, 9, 0, 0)}}
	for _, w := range wanted {
		n.Ranges = append(n.Ranges, between(0, 1, w.Low*w.Low, w.High*w.High))
	}
	return n
}

// P2.3: Bad and Conflict.
func TestBadAndConflict(t *testing.T) {
	for _, x := range []struct {
		what          string
		n             net.Network
		step          int
		bad, conflict []int
		e             api.Errno
	}{
		{"N", towed(), 10, nil, nil, api.ErrNone},
		{"N with a range that nothing keeps", towed(between(0, 2, 0, 10000)), 10, []int{2}, []int{2}, api.OK},
		{"N with a range against another one", towed(between(1, 2, 4000, 6500)), 10, []int{1}, []int{1, 2}, api.OK},
		{"no ranges", crossed(), 1, nil, nil, api.ErrNone},
		{"two against each other", crossed(span(0, 3), span(5, 9)), 1, []int{0}, []int{0, 1}, api.OK},
		{"one against two", crossed(span(0, 3), span(5, 9), span(6, 8)), 1, []int{0}, []int{0, 2}, api.OK},
		{"two against one", crossed(span(5, 9), span(6, 8), span(0, 3)), 1, []int{2}, []int{1, 2}, api.OK},
		{"three against one another", crossed(span(0, 2), span(4, 6), span(8, 9)), 1, []int{0, 1}, []int{1, 2}, api.OK},
		{"two pairs", crossed(span(0, 2), span(1, 2), span(4, 6), span(5, 6)), 1, []int{0, 1}, []int{1, 3}, api.OK},
		{"three against two", crossed(span(0, 2), span(4, 6), span(1, 2), span(5, 6), span(5, 7)), 1, []int{0, 2}, []int{2, 4}, api.OK},
		{"a range that nothing keeps before others", crossed(span(20, 30), span(0, 3), span(5, 9)), 1, []int{0, 1}, []int{1, 2}, api.OK},
		{"a range that nothing keeps behind others", crossed(span(0, 3), span(5, 9), span(20, 30)), 1, []int{0, 2}, []int{2}, api.OK},
		{"by a step that finds no place", crossed(span(0, 3), span(1, 4)), 5, []int{1}, []int{1}, api.OK},
		{"by a step that finds a place", crossed(span(0, 3), span(1, 4)), 3, nil, nil, api.ErrNone},
	} {
		l, e := net.Bad(x.n, x.step)
		ok(t, "Bad of "+x.what, e)
		same(t, "Bad of "+x.what, l, x.bad)
		l, e = net.Conflict(x.n, x.step)
		same(t, "Conflict of "+x.what, l, x.conflict)
		same(t, "Conflict of "+x.what, e, x.e)
	}
}

// P2.3: the last one of 24 ranges.
func TestManyRanges(t *testing.T) {
	n := crossed(append(slices.Repeat([]api.Interval{span(0, 9)}, 23), span(11, 12))...)
	l, e := net.Bad(n, 1)
	ok(t, "Bad", e)
	same(t, "Bad of 24", l, []int{23})
	l, e = net.Conflict(n, 1)
	ok(t, "Conflict", e)
	same(t, "Conflict of 24", l, []int{23})
	same(t, "CheckConflict of the last one", net.CheckConflict(n, 1, []int{23}), api.OK)
	same(t, "CheckConflict of all", net.CheckConflict(n, 1, others(24, nil)), api.OK)
	same(t, "CheckConflict of all others", net.CheckConflict(n, 1, others(23, nil)), api.ErrProof)
	all := crossed(slices.Repeat([]api.Interval{span(11, 12)}, 24)...)
	l, e = net.Bad(all, 1)
	ok(t, "Bad", e)
	same(t, "Bad of 24 bad ones", l, others(24, nil))
	l, e = net.Conflict(all, 1)
	ok(t, "Conflict", e)
	same(t, "Conflict of 24 bad ones", l, []int{23})
}

// P2.3, P3: Bad, Conflict and CheckConflict of small networks, by the definitions.
func TestConflictsSmall(t *testing.T) {
	r := random(5)
	count := map[api.Errno]int{}
	for range 500 {
		n := r.network()
		step := 1 + r.below(5)
		m := missed(n, step)
		if len(m) > 20000 {
			continue
		}
		b, e := net.Bad(n, step)
		if len(m) == 0 {
			fails(t, "Bad", b, e, api.ErrInfeasible)
		} else {
			ok(t, "Bad", e)
			same(t, "Bad", b, badOf(n, m))
		}
		c, e := net.Conflict(n, step)
		count[e]++
		switch {
		case len(m) == 0:
			fails(t, "Conflict", c, e, api.ErrInfeasible)
		case !conflicting(m, others(len(n.Ranges), nil)):
			fails(t, "Conflict", c, e, api.ErrNone)
		default:
			ok(t, "Conflict", e)
			same(t, "Conflict", c, conflictOf(n, m))
		}
		for size := range len(n.Ranges) + 1 {
			for _, l := range subsets(len(n.Ranges), size) {
				want := api.ErrProof
				if conflicting(m, l) {
					want = api.OK
				}
				same(t, "CheckConflict", net.CheckConflict(n, step, l), want)
			}
		}
	}
	for _, e := range []api.Errno{api.OK, api.ErrNone, api.ErrInfeasible} {
		if count[e] < 20 {
			t.Errorf("the result %d of Conflict was seen %d times alone", e, count[e])
		}
	}
}

// P2.3: CheckConflict.
func TestCheckConflict(t *testing.T) {
	n := towed(between(0, 2, 0, 10000))
	for _, x := range []struct {
		l []int
		e api.Errno
	}{
		{[]int{2}, api.OK}, {[]int{0, 2}, api.OK}, {[]int{1, 2}, api.OK}, {[]int{0, 1, 2}, api.OK},
		{nil, api.ErrProof}, {[]int{0}, api.ErrProof}, {[]int{1}, api.ErrProof}, {[]int{0, 1}, api.ErrProof},
	} {
		same(t, "CheckConflict", []any{x.l, net.CheckConflict(n, 10, x.l)}, []any{x.l, x.e})
	}
	for _, x := range badIndices() {
		same(t, "CheckConflict of a bad list", []any{x.l, net.CheckConflict(n, 10, x.l)}, []any{x.l, x.e})
		same(t, "CheckConflict of a bad list behind the limit", net.CheckConflict(n, 1, x.l), api.ErrLimit)
		same(t, "CheckConflict of a bad list behind the step", net.CheckConflict(n, 0, x.l), api.ErrRange)
		// without a placing every list of ranges is a conflict, but this is none
		same(t, "CheckConflict of a bad list without placings", net.CheckConflict(changed(func(m *net.Network) {
			m.Ranges = n.Ranges
			m.Bodies[0].Box = box(1, 2, 0, 0)
		}), 10, x.l), x.e)
	}
	for _, x := range badNetworks() {
		same(t, "CheckConflict of "+x.what, net.CheckConflict(x.n, 0, []int{-1}), x.e)
	}
	off := towed()
	off.Bodies[2].Box = box(181, 189, 0, 0)
	for _, l := range [][]int{nil, {0}, {1}, {0, 1}} {
		same(t, "CheckConflict without placings", net.CheckConflict(off, 10, l), api.OK)
	}
}

// P2.3: the errors of Bad, Conflict and CheckConflict, in their order.
func TestConflictErrors(t *testing.T) {
	for _, x := range badNetworks() {
		l, e := net.Bad(x.n, 0)
		fails(t, "Bad of "+x.what, l, e, x.e)
		l, e = net.Conflict(x.n, 0)
		fails(t, "Conflict of "+x.what, l, e, x.e)
	}
	for _, step := range []int{0, -1, 100001, math.MinInt, math.MaxInt} {
		l, e := net.Bad(towed(), step)
		fails(t, "Bad", l, e, api.ErrRange)
		l, e = net.Conflict(towed(), step)
		fails(t, "Conflict", l, e, api.ErrRange)
		same(t, "CheckConflict", net.CheckConflict(towed(), step, nil), api.ErrRange)
	}
	for _, step := range []int{1, 100000} {
		_, e := net.Bad(net.Network{Bodies: crowd(1)}, step)
		same(t, "Bad by a step at its end", e, api.OK)
	}
	for _, x := range limits() {
		l, e := net.Bad(x.n, x.step)
		fails(t, "Bad of "+x.what, l, e, x.e)
		l, e = net.Conflict(x.n, x.step)
		want, proof := x.e, x.e
		switch x.e {
		case api.OK:
			want, proof = api.ErrNone, api.ErrProof
		case api.ErrInfeasible:
			proof = api.OK
		}
		fails(t, "Conflict of "+x.what, l, e, want)
		same(t, "CheckConflict of "+x.what, net.CheckConflict(x.n, x.step, nil), proof)
	}
}
