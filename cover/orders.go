package cover

import (
	"cmp"
	"slices"

	"moveout/api"
	"moveout/common"
)

// checkTurns returns the first error of turns, or OK.
func checkTurns(turns [][]int) api.Errno {
	if len(turns) > api.MaxExact {
		return api.ErrMany
	}
	if slices.ContainsFunc(turns, func(row []int) bool { return len(row) != len(turns) }) {
		return api.ErrShape
	}
	return common.FirstOf(slices.Concat(turns...), func(minutes int) api.Errno {
		return common.CheckRange(minutes, 0, MaxMinutes)
	})
}

// minutesOf returns the minutes of an order of lines.
func minutesOf(turns [][]int, order []int) int {
	sum := 0
	for i := 1; i < len(order); i++ {
		sum += turns[order[i-1]][order[i]]
	}
	return sum
}

// completed returns, of the orders that begin with some lines, the least one.
func completed(turns [][]int, begun []int) []int {
	if len(begun) == len(turns) {
		return begun
	}
	var least []int
	for line := range turns {
		if slices.Contains(begun, line) {
			continue
		}
		order := completed(turns, slices.Concat(begun, []int{line}))
		if least == nil || minutesOf(turns, order) < minutesOf(turns, least) {
			least = order
		}
	}
	return least
}

// Order returns the order of lines with the least turns, and their minutes.
func Order(turns [][]int) ([]int, int, api.Errno) {
	if e := checkTurns(turns); e != api.OK {
		return nil, 0, e
	}
	order := completed(turns, nil)
	return order, minutesOf(turns, order), api.OK
}

// checkOrder returns the first error of an order of so many lines, or OK.
func checkOrder(order []int, lines int) api.Errno {
	if len(order) != lines {
		return api.ErrShape
	}
	for i, line := range order {
		if e := common.CheckIndex(line, lines); e != api.OK {
			return e
		}
		if slices.Contains(order[:i], line) {
			return api.ErrTwice
		}
	}
	return api.OK
}

// CheckOrder returns the minutes of the turns of an order.
func CheckOrder(turns [][]int, order []int) (int, api.Errno) {
	if e := checkTurns(turns); e != api.OK {
		return 0, e
	}
	if e := checkOrder(order, len(turns)); e != api.OK {
		return 0, e
	}
	return minutesOf(turns, order), api.OK
}

// groups has for each line the number of the group of lines that it is joined with.
type groups [api.MaxExact]int

// joined returns the groups when a pair of lines is joined.
func (g groups) joined(pair [2]int) groups {
	from, to := g[pair[1]], g[pair[0]]
	for line, group := range g {
		if group == from {
			g[line] = to
		}
	}
	return g
}

// pairs returns all pairs of lines, by the lesser one of both turns between them, then by the first line, then by the second one.
func pairs(turns [][]int) [][2]int {
	var l [][2]int
	for b := range turns {
		for a := range b {
			l = append(l, [2]int{a, b})
		}
	}
	slices.SortFunc(l, func(x, y [2]int) int {
		return cmp.Or(cmp.Compare(between(turns, x), between(turns, y)), slices.Compare(x[:], y[:]))
	})
	return l
}

// between returns the lesser one of both turns between the lines of a pair.
func between(turns [][]int, pair [2]int) int {
	return min(turns[pair[0]][pair[1]], turns[pair[1]][pair[0]])
}

// Tree returns a least tree of turns, and its minutes.
func Tree(turns [][]int) ([][2]int, int, api.Errno) {
	if e := checkTurns(turns); e != api.OK {
		return nil, 0, e
	}
	var taken [][2]int
	minutes := 0
	var now groups
	for line := range now {
		now[line] = line
	}
	for _, pair := range pairs(turns) {
		// Where both lines are joined already, their groups stay as they are.
		if next := now.joined(pair); next != now {
			now = next
			taken = append(taken, pair)
			minutes += between(turns, pair)
		}
	}
	return taken, minutes, api.OK
}
