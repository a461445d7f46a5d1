package cover

import (
	"moveout/api"
	"moveout/common"
)

// checkLinesOn returns the first error of a grid, of classes and of lines, or OK.
func checkLinesOn(g Grid, classes []int, l []Line) api.Errno {
	return common.First(CheckGrid(g), checkClasses(classes), CheckLines(l))
}

func checkWant(want int) api.Errno {
	return common.CheckRange(want, 1, MaxFold)
}

// coverage returns the coverage of lines.
func coverage(g Grid, classes []int, l []Line) []int {
	counts := make([]int, g.bins()*len(classes))
	for _, line := range l {
		for p := range line.places() {
			bin, class := g.bin(p), classOf(classes, p)
			if bin >= 0 && class >= 0 {
				counts[bin*len(classes)+class]++
			}
		}
	}
	return counts
}

// folds returns the folds of all bins.
func folds(g Grid, classes []int, l []Line) []int {
	counts := coverage(g, classes, l)
	sums := make([]int, g.bins())
	for bin := range g.bins() {
		for class := range classes {
			sums[bin] += counts[bin*len(classes)+class]
		}
	}
	return sums
}

// needs returns the needs of all bins.
func needs(g Grid, classes []int, l []Line, want int) []int {
	return common.Each(folds(g, classes, l), func(fold int) int { return max(0, want-fold) })
}

// Coverage returns how many traces of lines each bin has in each offset class.
func Coverage(g Grid, classes []int, l []Line) ([]int, api.Errno) {
	if e := checkLinesOn(g, classes, l); e != api.OK {
		return nil, e
	}
	return coverage(g, classes, l), api.OK
}

// Fold returns how many traces each bin has in all classes.
func Fold(g Grid, classes []int, l []Line) ([]int, api.Errno) {
	if e := checkLinesOn(g, classes, l); e != api.OK {
		return nil, e
	}
	return folds(g, classes, l), api.OK
}

// Gaps returns the bins whose fold is less than a wanted one.
func Gaps(g Grid, classes []int, l []Line, want int) ([]int, api.Errno) {
	if e := common.First(checkLinesOn(g, classes, l), checkWant(want)); e != api.OK {
		return nil, e
	}
	var gaps []int
	for bin, need := range needs(g, classes, l, want) {
		if need > 0 {
			gaps = append(gaps, bin)
		}
	}
	return gaps, api.OK
}
