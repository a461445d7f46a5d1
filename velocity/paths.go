package velocity

import (
	"cmp"
	"slices"

	"moveout/api"
	"moveout/common"
)

// CheckPanel returns the first error of a panel, or OK.
func CheckPanel(p [][]int) api.Errno {
	if e := common.CheckCount(len(p), MaxTimes); e != api.OK {
		return e
	}
	return common.FirstOf(p, func(scores []int) api.Errno { return checkScores(scores, len(p[0])) })
}

// checkScores returns the first error of the scores at a time, for so many rows, or OK.
func checkScores(l []int, rows int) api.Errno {
	if e := common.CheckCount(len(l), MaxRows); e != api.OK {
		return e
	}
	if len(l) != rows {
		return api.ErrShape
	}
	return common.FirstOf(l, func(score int) api.Errno { return common.CheckRange(score, 0, Unit) })
}

// check returns ErrRange for limits one of which is not in its range, or OK.
func (x Limits) check() api.Errno {
	nearest := Limits{Up: max(0, min(x.Up, MaxRows)), Down: max(0, min(x.Down, MaxRows))}
	if x != nearest {
		return api.ErrRange
	}
	return api.OK
}

// permit reports whether one row may follow another one.
func (x Limits) permit(before, row int) bool {
	return row <= before+x.Up && row >= before-x.Down
}

// reached returns, of what all rows have at a time, the part of those to which limits permit to go from a row.
func reached[T any](x Limits, row int, next []T) []T {
	return next[max(0, row-x.Down):min(row+x.Up+1, len(next))]
}

// checkSearch returns the first error of a panel and of limits, or OK.
func checkSearch(p [][]int, x Limits) api.Errno {
	return common.First(CheckPanel(p), x.check())
}

// CheckPath returns the score of a path that keeps the limits.
func CheckPath(p [][]int, x Limits, path []int) (int, api.Errno) {
	if e := checkSearch(p, x); e != api.OK {
		return 0, e
	}
	if len(path) != len(p) {
		return 0, api.ErrShape
	}
	score := 0
	for t, row := range path {
		if e := common.CheckIndex(row, len(p[t])); e != api.OK {
			return 0, e
		}
		if t > 0 && !x.permit(path[t-1], row) {
			return 0, api.ErrRule
		}
		score += p[t][row]
	}
	return score, api.OK
}

// rival is a path, or the end of one, with its score.
type rival struct {
	path  []int
	score int
}

// compare compares two rivals: the one that comes first is less.
func (r rival) compare(s rival) int {
	return cmp.Or(cmp.Compare(s.score, r.score), slices.Compare(r.path, s.path))
}

// after returns a rival with a row, and its score, in front.
func (r rival) after(row, score int) rival {
	return rival{path: slices.Concat([]int{row}, r.path), score: score + r.score}
}

// firstRivals returns the first so many rivals of some lists.
func firstRivals(many int, lists ...[]rival) []rival {
	all := slices.Concat(lists...)
	slices.SortFunc(all, rival.compare)
	return all[:min(many, len(all))]
}

// rivals returns the first so many rivals.
func rivals(p [][]int, x Limits, many int) []rival {
	// The first rivals, for each row, among the ends of paths from this row at a time on: the end of one of the first rivals is one of them.
	var ends [][]rival
	for t := len(p) - 1; t >= 0; t-- {
		now := make([][]rival, len(p[t]))
		for row := range len(p[t]) {
			next := []rival{{}}
			if t < len(p)-1 {
				next = firstRivals(many, reached(x, row, ends)...)
			}
			now[row] = common.Each(next, func(r rival) rival { return r.after(row, p[t][row]) })
		}
		ends = now
	}
	return firstRivals(many, ends...)
}

// Best returns the best path, and its score.
func Best(p [][]int, x Limits) ([]int, int, api.Errno) {
	if e := checkSearch(p, x); e != api.OK {
		return nil, 0, e
	}
	first := rivals(p, x, 1)[0]
	return first.path, first.score, api.OK
}

// Rivals returns the first so many rivals.
func Rivals(p [][]int, x Limits, many int) ([][]int, api.Errno) {
	if e := common.First(checkSearch(p, x), common.CheckRange(many, 1, MaxRivals)); e != api.OK {
		return nil, e
	}
	return common.Each(rivals(p, x, many), func(r rival) []int { return r.path }), api.OK
}
