package image_test

import (
	"slices"

	"moveout/image"
)

// The functions of this file follow the definitions of the chapter word by word, for small arguments.

// absolute returns the absolute value of a number.
func absolute(n int) int {
	return max(n, -n)
}

// costOf returns the cost of two cells, and whether they are neighbours.
func costOf(g image.Ground, a, b int) (int, bool) {
	columns := absolute(a%g.Columns - b%g.Columns)
	rows := absolute(a/g.Columns - b/g.Columns)
	sum := g.Slow[a] + g.Slow[b]
	switch {
	case a == b || columns > 1 || rows > 1:
		return 0, false
	case columns == 0 || rows == 0:
		return 2 * sum, true
	}
	return 3 * sum, true
}

// straightOf reports whether two cells are straight neighbours.
func straightOf(g image.Ground, a, b int) bool {
	_, near := costOf(g, a, b)
	return near && (a%g.Columns == b%g.Columns || a/g.Columns == b/g.Columns)
}

// timesOf returns the times from a cell to all cells: ways are made longer until no time becomes less.
func timesOf(g image.Ground, source int) []int {
	const far = 1 << 40
	times := slices.Repeat(ints(far), len(g.Slow))
	times[source] = 0
	for changed := true; changed; {
		changed = false
		for a := range times {
			for b := range times {
				if cost, near := costOf(g, a, b); near && times[a]+cost < times[b] {
					times[b], changed = times[a]+cost, true
				}
			}
		}
	}
	return times
}

// wayTime returns the time of a way.
func wayTime(g image.Ground, way []int) int {
	time := 0
	for i := 1; i < len(way); i++ {
		cost, _ := costOf(g, way[i-1], way[i])
		time += cost
	}
	return time
}

// waysOf returns all ways between two cells that have no cell twice, the first one first.
func waysOf(g image.Ground, way []int, target int) [][]int {
	last := way[len(way)-1]
	if last == target {
		return [][]int{way}
	}
	var all [][]int
	for next := range g.Slow {
		if _, near := costOf(g, last, next); near && !slices.Contains(way, next) {
			all = append(all, waysOf(g, append(slices.Clone(way), next), target)...)
		}
	}
	return all
}

// bestOf returns the best way between two cells.
func bestOf(g image.Ground, source, target int) []int {
	var best []int
	for _, way := range waysOf(g, ints(source), target) {
		if best == nil || wayTime(g, way) < wayTime(g, best) {
			best = way
		}
	}
	return best
}

// prove reports whether potentials prove something.
func prove(g image.Ground, potentials []int) bool {
	for a := range potentials {
		for b := range potentials {
			if cost, near := costOf(g, a, b); near && absolute(potentials[a]-potentials[b]) > cost {
				return false
			}
		}
	}
	return true
}

// numberOf returns the number of a cell for a pair.
func numberOf(g image.Ground, s image.Survey, p image.Pair, cell int) int {
	return (timesOf(g, p.Source)[cell] + timesOf(g, cell)[p.Receiver]) / s.Unit
}

// delaysOf returns for each cell its sample for a pair, or -1.
func delaysOf(g image.Ground, s image.Survey, p image.Pair) []int {
	numbers := make([]int, len(g.Slow))
	for cell := range g.Slow {
		numbers[cell] = numberOf(g, s, p, cell)
	}
	delays := slices.Clone(numbers)
	for a := range g.Slow {
		if p.Hole || numbers[a] >= s.Length {
			delays[a] = -1
		}
		for b := range g.Slow {
			if straightOf(g, a, b) && absolute(numbers[a]-numbers[b]) > s.Most {
				delays[a] = -1
			}
		}
	}
	return delays
}

// modelOf returns the traces of a model.
func modelOf(g image.Ground, s image.Survey, model []int) [][]int {
	out := make([][]int, len(s.Pairs))
	for i, p := range s.Pairs {
		delays := delaysOf(g, s, p)
		for at := range s.Length {
			sum := 0
			for cell, n := range model {
				if delays[cell] == at {
					sum += n
				}
			}
			if !p.Hole {
				out[i] = append(out[i], sum)
			}
		}
	}
	return out
}

// imageOf returns the image of traces.
func imageOf(g image.Ground, s image.Survey, data [][]int) []int {
	out := make([]int, len(g.Slow))
	for i, p := range s.Pairs {
		for cell, at := range delaysOf(g, s, p) {
			if at >= 0 {
				out[cell] += data[i][at]
			}
		}
	}
	return out
}

// flatOf returns all integers of traces.
func flatOf(data [][]int) []int {
	var l []int
	for _, trace := range data {
		l = append(l, trace...)
	}
	return l
}

// innerOf returns the inner product of two lists.
func innerOf(a, b []int) int {
	sum := 0
	for i := range a {
		sum += a[i] * b[i]
	}
	return sum
}

// misfitOf returns the misfit of a model and traces.
func misfitOf(g image.Ground, s image.Survey, model []int, data [][]int) int {
	sum := 0
	for i, trace := range modelOf(g, s, model) {
		for at, n := range trace {
			sum += (n - data[i][at]) * (n - data[i][at])
		}
	}
	return sum
}

// turnedOf returns a number times a power of -i, or, with an exponent below 0, of i.
func turnedOf(x complex64, exponent int) complex64 {
	by := complex64(-1i)
	if exponent < 0 {
		by, exponent = 1i, -exponent
	}
	for range exponent % 4 {
		x *= by
	}
	return x
}

// delayOf returns the delayed panel.
func delayOf(p [4]complex64, by int) [4]complex64 {
	for k := range p {
		p[k] = turnedOf(p[k], k*by)
	}
	return p
}
