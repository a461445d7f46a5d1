package cover_test

import (
	"slices"

	"moveout/api"
	"moveout/cover"
)

// The functions of this file follow the definitions of the chapter word by word, for small arguments.

// placesOf returns the places of a line.
func placesOf(l cover.Line) []cover.Place {
	var places []cover.Place
	for i := 0; i < l.Shots; i++ {
		if slices.Contains(l.Refused, i) {
			continue
		}
		source := at(l.Start.X+i*l.Step.X, l.Start.Y+i*l.Step.Y)
		for k := 0; k < l.Channels; k++ {
			places = append(places, between(source, at(source.X+l.Near.X+k*l.Spacing.X, source.Y+l.Near.Y+k*l.Spacing.Y)))
		}
	}
	return places
}

// binOf returns the bin of a place.
func binOf(g cover.Grid, p cover.Place) int {
	x := float64(p.Source.X+p.Receiver.X) / 2
	y := float64(p.Source.Y+p.Receiver.Y) / 2
	lies := func(v float64, origin, side, i int) bool {
		return v >= float64(origin+i*side) && v < float64(origin+(i+1)*side)
	}
	for r := 0; r < g.Rows; r++ {
		for c := 0; c < g.Columns; c++ {
			if lies(x, g.Origin.X, g.Width, c) && lies(y, g.Origin.Y, g.Height, r) {
				return r*g.Columns + c
			}
		}
	}
	return -1
}

// classOf returns the class of a place.
func classOf(classes []int, p cover.Place) int {
	x, y := p.Source.X-p.Receiver.X, p.Source.Y-p.Receiver.Y
	for i, c := range classes {
		if c > x*x+y*y {
			return i
		}
	}
	return -1
}

// coverageOf returns the coverage of lines.
func coverageOf(g cover.Grid, classes []int, l []cover.Line) []int {
	var counts []int
	for bin := 0; bin < g.Columns*g.Rows; bin++ {
		for class := range classes {
			n := 0
			for _, line := range l {
				for _, p := range placesOf(line) {
					if binOf(g, p) == bin && classOf(classes, p) == class {
						n++
					}
				}
			}
			counts = append(counts, n)
		}
	}
	return counts
}

// foldOf returns the folds of all bins.
func foldOf(g cover.Grid, classes []int, l []cover.Line) []int {
	var folds []int
	for c := range slices.Chunk(coverageOf(g, classes, l), len(classes)) {
		n := 0
		for _, x := range c {
			n += x
		}
		folds = append(folds, n)
	}
	return folds
}

// gapsOf returns the gaps, and needsOf the needs of all bins.
func gapsOf(g cover.Grid, classes []int, l []cover.Line, want int) []int {
	var gaps []int
	for bin, n := range foldOf(g, classes, l) {
		if n < want {
			gaps = append(gaps, bin)
		}
	}
	return gaps
}

func needsOf(g cover.Grid, classes []int, l []cover.Line, want int) []int {
	needs := make([]int, g.Columns*g.Rows)
	folds := foldOf(g, classes, l)
	for _, bin := range gapsOf(g, classes, l, want) {
		needs[bin] = want - folds[bin]
	}
	return needs
}

// task is the needs of all bins, what each offer adds to each bin, and its minutes.
type task struct {
	needs   []int
	adds    [][]int
	minutes []int
}

func taskOf(g cover.Grid, classes []int, l []cover.Line, want int, offers []cover.Offer) task {
	x := task{needs: needsOf(g, classes, l, want)}
	for _, o := range offers {
		x.adds = append(x.adds, foldOf(g, classes, []cover.Line{o.Line}))
		x.minutes = append(x.minutes, o.Minutes)
	}
	return x
}

// reaches reports whether a choice reaches the wanted fold.
func (x task) reaches(choice []int) bool {
	for bin, need := range x.needs {
		sum := 0
		for _, i := range choice {
			sum += x.adds[i][bin]
		}
		if sum < need {
			return false
		}
	}
	return true
}

// cost returns the minutes of a choice.
func (x task) cost(choice []int) int {
	n := 0
	for _, i := range choice {
		n += x.minutes[i]
	}
	return n
}

// choicesOf returns all choices of the offers from one on before n.
func choicesOf(from, n int) [][]int {
	l := [][]int{nil}
	for i := from; i < n; i++ {
		for _, rest := range choicesOf(i+1, n) {
			l = append(l, append([]int{i}, rest...))
		}
	}
	return l
}

// infill returns the infill, or false.
func (x task) infill() ([]int, bool) {
	var best []int
	found := false
	for _, choice := range choicesOf(0, len(x.minutes)) {
		if !x.reaches(choice) {
			continue
		}
		better := x.cost(choice) < x.cost(best) || x.cost(choice) == x.cost(best) && slices.Compare(choice, best) < 0
		if !found || better {
			best, found = choice, true
		}
	}
	return best, found
}

// proves returns the sum of prices times needs, and whether the prices prove it.
func (x task) proves(prices []int) (int, bool) {
	sum := 0
	for bin, need := range x.needs {
		sum += prices[bin] * need
	}
	for i, minutes := range x.minutes {
		paid := 0
		for bin, need := range x.needs {
			paid += prices[bin] * min(x.adds[i][bin], need)
		}
		if paid > minutes {
			return 0, false
		}
	}
	return sum, true
}

// prices returns the first prices, or false.
func (x task) prices() ([]int, bool) {
	prices := make([]int, len(x.needs))
	for bin, need := range x.needs {
		if need == 0 {
			continue
		}
		var all []int
		for i, minutes := range x.minutes {
			if x.adds[i][bin] == 0 {
				continue
			}
			left := minutes
			for before := range bin {
				left -= prices[before] * min(x.adds[i][before], x.needs[before])
			}
			all = append(all, left/min(x.adds[i][bin], need))
		}
		if len(all) == 0 {
			return nil, false
		}
		prices[bin] = slices.Min(all)
	}
	return prices, true
}

// ordersOf returns all orders of some lines, the first ones first.
func ordersOf(lines []int) [][]int {
	if len(lines) == 0 {
		return [][]int{nil}
	}
	var out [][]int
	for i, line := range lines {
		for _, rest := range ordersOf(slices.Delete(slices.Clone(lines), i, i+1)) {
			out = append(out, append([]int{line}, rest...))
		}
	}
	return out
}

// costOf returns the minutes of an order.
func costOf(turns [][]int, order []int) int {
	sum := 0
	for i := range order {
		if i > 0 {
			sum += turns[order[i-1]][order[i]]
		}
	}
	return sum
}

// orderOf returns the least order.
func orderOf(turns [][]int) []int {
	return slices.MinFunc(ordersOf(upTo(len(turns))), func(a, b []int) int { return costOf(turns, a) - costOf(turns, b) })
}

// linked reports whether two lines are joined by pairs.
func linked(pairs [][2]int, a, b int) bool {
	seen := []int{a}
	for i := 0; i < len(seen); i++ {
		for _, p := range pairs {
			for end := range 2 {
				if p[end] == seen[i] && !slices.Contains(seen, p[1-end]) {
					seen = append(seen, p[1-end])
				}
			}
		}
	}
	return slices.Contains(seen, b)
}

// treeOf returns the pairs of the tree.
func treeOf(turns [][]int) [][2]int {
	var taken [][2]int
	for minutes := 0; minutes <= cover.MaxMinutes; minutes++ {
		for a := range turns {
			for b := a + 1; b < len(turns); b++ {
				if min(turns[a][b], turns[b][a]) == minutes && !linked(taken, a, b) {
					taken = append(taken, [2]int{a, b})
				}
			}
		}
	}
	return taken
}

// isPoint reports whether a point has coordinates in their range.
func isPoint(p api.Point) bool {
	return p.X >= -100000 && p.X <= 100000 && p.Y >= -100000 && p.Y <= 100000
}
