package cover_test

import (
	"math"
	"slices"
	"testing"

	"moveout/api"
	"moveout/cover"
)

// triple returns the turns of the chapter.
func triple() [][]int { return [][]int{{0, 5, 9}, {4, 0, 3}, {9, 8, 0}} }

// level returns the turns of so many lines, all with the same minutes.
func level(lines, minutes int) [][]int {
	l := make([][]int, lines)
	for i := range l {
		l[i] = slices.Repeat([]int{minutes}, lines)
	}
	return l
}

// badTurn is turns that are none, with their error.
type badTurn struct {
	turns [][]int
	e     api.Errno
}

// badTurns returns turns with each error, and with two where their order matters.
func badTurns() []badTurn {
	l := []badTurn{
		{level(9, 1), api.ErrMany}, {make([][]int, 9), api.ErrMany}, {make([][]int, 100000), api.ErrMany}, {level(9, -1), api.ErrMany},
		{[][]int{nil}, api.ErrShape}, {[][]int{{1, 2}}, api.ErrShape}, {[][]int{{0, 1}, {1}}, api.ErrShape}, {[][]int{{0, 1, 2}, {0, 1}}, api.ErrShape}, {make([][]int, 8), api.ErrShape}, {[][]int{make([]int, 100000)}, api.ErrShape},
		{[][]int{{0, -1}, {1}}, api.ErrShape}, {[][]int{{0, 1, 1}, {1, 0, 1}, {1, -1}}, api.ErrShape},
	}
	for _, n := range []int{math.MinInt, -1, 10001, math.MaxInt} {
		l = append(l, badTurn{[][]int{{n}}, api.ErrRange}, badTurn{[][]int{{0, n}, {0, 0}}, api.ErrRange}, badTurn{[][]int{{0, 1}, {n, 0}}, api.ErrRange}, badTurn{[][]int{{0, 1}, {1, n}}, api.ErrRange})
	}
	return l
}

// P4.5: Order, CheckOrder and Tree of the example, and of others.
func TestOrders(t *testing.T) {
	for _, x := range []struct {
		what    string
		turns   [][]int
		order   []int
		minutes int
		tree    [][2]int
		sum     int
	}{
		{"the example", triple(), []int{0, 1, 2}, 8, [][2]int{{1, 2}, {0, 1}}, 7},
		{"nothing", nil, nil, 0, nil, 0},
		{"one line", [][]int{{10000}}, []int{0}, 0, nil, 0},
		{"two lines", [][]int{{9, 7}, {6, 9}}, []int{1, 0}, 6, [][2]int{{0, 1}}, 6},
		{"two lines with the same turns", [][]int{{0, 7}, {7, 0}}, []int{0, 1}, 7, [][2]int{{0, 1}}, 7},
		{"eight lines with the same turns", level(8, 10000), upTo(8), 70000, [][2]int{{0, 1}, {0, 2}, {0, 3}, {0, 4}, {0, 5}, {0, 6}, {0, 7}}, 70000},
		{"no minutes", level(4, 0), upTo(4), 0, [][2]int{{0, 1}, {0, 2}, {0, 3}}, 0},
		{"the last order", [][]int{{0, 9, 9}, {1, 0, 9}, {9, 1, 0}}, []int{2, 1, 0}, 2, [][2]int{{0, 1}, {1, 2}}, 2},
		{"pairs from the last one on", [][]int{{0, 3, 2}, {9, 0, 1}, {9, 9, 0}}, []int{0, 1, 2}, 4, [][2]int{{1, 2}, {0, 2}}, 3},
		{"two pairs that are joined", [][]int{{0, 1, 4, 5}, {9, 0, 3, 6}, {9, 9, 0, 1}, {9, 9, 9, 0}}, []int{0, 1, 2, 3}, 5, [][2]int{{0, 1}, {2, 3}, {1, 2}}, 5},
		{"the same minutes by a, then by b", [][]int{{0, 9, 9, 2}, {9, 0, 2, 9}, {9, 9, 0, 2}, {9, 9, 9, 0}}, []int{0, 1, 2, 3}, 13, [][2]int{{0, 3}, {1, 2}, {2, 3}}, 6},
	} {
		o, n, e := cover.Order(x.turns)
		ok(t, "Order", e)
		same(t, "Order: "+x.what, o, x.order)
		same(t, "the minutes of Order: "+x.what, n, x.minutes)
		n, e = cover.CheckOrder(x.turns, x.order)
		ok(t, "CheckOrder", e)
		same(t, "CheckOrder: "+x.what, n, x.minutes)
		p, n, e := cover.Tree(x.turns)
		ok(t, "Tree", e)
		same(t, "Tree: "+x.what, p, x.tree)
		same(t, "the sum of Tree: "+x.what, n, x.sum)
	}
}

// P4.5: CheckOrder.
func TestCheckOrder(t *testing.T) {
	for _, x := range []struct {
		order []int
		n     int
		e     api.Errno
	}{
		{[]int{0, 1, 2}, 8, api.OK}, {[]int{2, 0, 1}, 14, api.OK}, {[]int{0, 2, 1}, 17, api.OK}, {[]int{1, 0, 2}, 13, api.OK}, {[]int{1, 2, 0}, 12, api.OK}, {[]int{2, 1, 0}, 12, api.OK},
		{nil, 0, api.ErrShape}, {[]int{0, 1}, 0, api.ErrShape}, {[]int{0, 1, 2, 0}, 0, api.ErrShape}, {[]int{3}, 0, api.ErrShape}, {make([]int, 100000), 0, api.ErrShape},
		{[]int{0, 1, 3}, 0, api.ErrUnknown}, {[]int{-1, 0, 0}, 0, api.ErrUnknown}, {[]int{math.MinInt, 1, 2}, 0, api.ErrUnknown}, {[]int{0, math.MaxInt, 0}, 0, api.ErrUnknown},
		{[]int{2, 0, 2}, 0, api.ErrTwice}, {[]int{0, 0, 3}, 0, api.ErrTwice}, {[]int{1, 1, 1}, 0, api.ErrTwice},
	} {
		n, e := cover.CheckOrder(triple(), x.order)
		fails(t, "CheckOrder", n, e, x.e)
		same(t, "CheckOrder", []any{x.order, n}, []any{x.order, x.n})
	}
	n, e := cover.CheckOrder(nil, []int{0})
	fails(t, "CheckOrder of no lines", n, e, api.ErrShape)
}

// P4.5: Order, CheckOrder and Tree by the definitions.
func TestOrdersDefined(t *testing.T) {
	r := random(7)
	for round := range 200 {
		turns := r.turns(r.below(6), 1+r.below(20))
		if round%50 == 0 {
			turns = r.turns(8, 10000)
		}
		want := orderOf(turns)
		o, n, e := cover.Order(turns)
		ok(t, "Order", e)
		same(t, "Order by the definition", o, want)
		same(t, "the minutes of Order", n, costOf(turns, want))
		other := upTo(len(turns))
		for i := range other {
			j := r.below(i + 1)
			other[i], other[j] = other[j], other[i]
		}
		n, e = cover.CheckOrder(turns, other)
		ok(t, "CheckOrder", e)
		same(t, "CheckOrder by the definition", n, costOf(turns, other))
		tree := treeOf(turns)
		sum := 0
		for _, p := range tree {
			sum += min(turns[p[0]][p[1]], turns[p[1]][p[0]])
		}
		p, n, e := cover.Tree(turns)
		ok(t, "Tree", e)
		same(t, "Tree by the definition", p, tree)
		same(t, "the sum of Tree", n, sum)
	}
}

// P4.5: the errors of turns.
func TestOrderErrors(t *testing.T) {
	for _, x := range badTurns() {
		o, n, e := cover.Order(x.turns)
		fails(t, "Order", o, e, x.e)
		same(t, "the minutes of Order", n, 0)
		for _, order := range [][]int{nil, {0}, upTo(len(x.turns)), {-1, 0}} {
			n, e = cover.CheckOrder(x.turns, order)
			fails(t, "CheckOrder", n, e, x.e)
		}
		p, n, e := cover.Tree(x.turns)
		fails(t, "Tree", p, e, x.e)
		same(t, "the sum of Tree", n, 0)
	}
}
