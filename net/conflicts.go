package net

import (
	"cmp"
	"math/bits"
	"slices"

	"moveout/api"
	"moveout/common"
)

// set is a set of ranges: its bit i says whether it has the range i.
type set uint32

func setOf(l []int) set {
	s := set(0)
	for _, i := range l {
		s |= 1 << i
	}
	return s
}

// list returns the indices of a set, ascending.
func (s set) list() []int {
	var l []int
	for i := range MaxRanges {
		if s&(1<<i) != 0 {
			l = append(l, i)
		}
	}
	return l
}

// compare compares sets by their numbers of ranges, then by their lists.
func (s set) compare(t set) int {
	if c := cmp.Compare(bits.OnesCount32(uint32(s)), bits.OnesCount32(uint32(t))); c != 0 {
		return c
	}
	return slices.Compare(s.list(), t.list())
}

// misses returns, for each lattice placing, the ranges that it does not keep; or the first error of a network, of a step, and of the number of lattice placings.
func misses(n Network, step int) ([]set, api.Errno) {
	if e := common.First(CheckNetwork(n), checkStep(step)); e != api.OK {
		return nil, e
	}
	if e := checkCount(n, step); e != api.OK {
		return nil, e
	}
	var l []set
	for placing := range placings(n, step) {
		l = append(l, setOf(unkept(n, placing)))
	}
	return l, api.OK
}

// isConflict reports whether some ranges are a conflict: whether each lattice placing misses one of them.
func isConflict(misses []set, ranges set) bool {
	return !slices.ContainsFunc(misses, func(s set) bool { return s&ranges == 0 })
}

// Bad returns the bad ranges by a step.
func Bad(n Network, step int) ([]int, api.Errno) {
	l, e := misses(n, step)
	if e != api.OK {
		return nil, e
	}
	if len(l) == 0 {
		return nil, api.ErrInfeasible
	}
	return slices.MinFunc(l, set.compare).list(), api.OK
}

// Conflict returns the first conflict by a step.
func Conflict(n Network, step int) ([]int, api.Errno) {
	l, e := misses(n, step)
	if e != api.OK {
		return nil, e
	}
	if len(l) == 0 {
		return nil, api.ErrInfeasible
	}
	left := set(1<<len(n.Ranges) - 1)
	if !isConflict(l, left) {
		return nil, api.ErrNone
	}
	for i := range n.Ranges {
		if rest := left &^ (1 << i); isConflict(l, rest) {
			left = rest
		}
	}
	return left.list(), api.OK
}

// CheckConflict returns OK for a conflict.
func CheckConflict(n Network, step int, l []int) api.Errno {
	all, e := misses(n, step)
	if e != api.OK {
		return e
	}
	if e := checkIndices(l, len(n.Ranges)); e != api.OK {
		return e
	}
	if !isConflict(all, setOf(l)) {
		return api.ErrProof
	}
	return api.OK
}
