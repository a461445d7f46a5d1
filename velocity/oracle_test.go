package velocity_test

import (
	"math/big"
	"slices"

	"moveout/api"
	"moveout/trace"
	"moveout/velocity"
)

// The functions of this file follow the definitions of the chapter word by word, for small arguments.

// ratio returns a quotient as a rational number.
func ratio(num, den int) *big.Rat {
	return big.NewRat(int64(num), int64(den))
}

// ratioOf returns a rational number in lowest terms.
func ratioOf(x *big.Rat) api.Ratio {
	return api.Ratio{Num: int(x.Num().Int64()), Den: int(x.Denom().Int64())}
}

// downOf returns the greatest integer that is not above a number.
func downOf(x *big.Rat) int {
	// The division is Euclid's: with a divisor above 0 the quotient is rounded down.
	return int(new(big.Int).Div(x.Num(), x.Denom()).Int64())
}

// movedOf returns the moved time.
func movedOf(t, q, v int) int {
	sum := int64(t*t + downOf(ratio(q, v)))
	return int(new(big.Int).Sqrt(big.NewInt(sum)).Int64())
}

// widthOf returns the width of a gather.
func widthOf(g trace.Shot) int {
	width := 0
	for _, x := range g.Traces {
		width = max(width, len(x.Samples))
	}
	return width
}

// movedTrace returns the moved time of a trace.
func movedTrace(x trace.Trace, t, v int) int {
	h := x.Header
	return movedOf(t, (h[0]-h[2])*(h[0]-h[2])+(h[1]-h[3])*(h[1]-h[3]), v)
}

// liveOf returns the live traces of a gather at a time.
func liveOf(g trace.Shot, t, v, stretch int) []int {
	var l []int
	for i, x := range g.Traces {
		if m := movedTrace(x, t, v); !x.Hole && m < widthOf(g) && m <= t+stretch {
			l = append(l, i)
		}
	}
	return l
}

// correctedOf returns the corrected gather.
func correctedOf(g trace.Shot, v, stretch int) trace.Shot {
	out := clone(g)
	for i, x := range out.Traces {
		for t := range x.Samples {
			x.Samples[t] = 0
			if slices.Contains(liveOf(g, t, v, stretch), i) {
				x.Samples[t] = g.Traces[i].Samples[movedTrace(x, t, v)]
			}
		}
	}
	return out
}

// integersAt returns the integers of the live traces at a time, in the corrected gather.
func integersAt(g trace.Shot, t, v, stretch int) []int {
	var l []int
	corrected := correctedOf(g, v, stretch)
	for _, i := range liveOf(g, t, v, stretch) {
		l = append(l, int(16*corrected.Traces[i].Samples[t]))
	}
	return l
}

// sumOf returns a sum of integers.
func sumOf(l []int) int {
	sum := 0
	for _, n := range l {
		sum += n
	}
	return sum
}

// semblanceOf returns the semblance at a time.
func semblanceOf(g trace.Shot, t, v, window, stretch int) *big.Rat {
	num, den := 0, 0
	for at := range widthOf(g) {
		if at < t-window || at > t+window {
			continue
		}
		l := integersAt(g, at, v, stretch)
		num += sumOf(l) * sumOf(l)
		for _, n := range l {
			den += len(l) * n * n
		}
	}
	if den == 0 {
		return new(big.Rat)
	}
	return ratio(num, den)
}

// panelOf returns the panel of a gather.
func panelOf(g trace.Shot, x velocity.Setting) [][]int {
	var p [][]int
	for t := 0; t < widthOf(g); t += x.Every {
		var scores []int
		for _, v := range x.Fan {
			s := semblanceOf(g, t, v, x.Window, x.Stretch)
			scores = append(scores, downOf(s.Mul(s, ratio(1024, 1))))
		}
		p = append(p, scores)
	}
	return p
}

// stackOf returns the stack of a gather by a path.
func stackOf(g trace.Shot, x velocity.Setting, path []int) []float32 {
	var stack []float32
	for t := range widthOf(g) {
		l := integersAt(g, t, x.Fan[path[t/x.Every]], x.Stretch)
		rounded := 0
		if len(l) > 0 {
			rounded = downOf(new(big.Rat).Add(ratio(sumOf(l), len(l)), ratio(1, 2)))
		}
		stack = append(stack, samples(rounded)...)
	}
	return stack
}

// keeps reports whether a path keeps the limits.
func keeps(x velocity.Limits, path []int) bool {
	for i := 1; i < len(path); i++ {
		if path[i]-path[i-1] > x.Up || path[i-1]-path[i] > x.Down {
			return false
		}
	}
	return true
}

// pathsOf returns all paths through so many times and rows that keep the limits, the first one first.
func pathsOf(times, rows int, x velocity.Limits) [][]int {
	all := [][]int{nil}
	for range times {
		var longer [][]int
		for _, path := range all {
			for row := range rows {
				longer = append(longer, append(slices.Clone(path), row))
			}
		}
		all = longer
	}
	return slices.DeleteFunc(all, func(path []int) bool { return !keeps(x, path) })
}

// scoreOf returns the score of a path.
func scoreOf(p [][]int, path []int) int {
	sum := 0
	for t, row := range path {
		sum += p[t][row]
	}
	return sum
}

// rivalsOf returns all rivals.
func rivalsOf(p [][]int, x velocity.Limits) [][]int {
	l := pathsOf(len(p), len(p[0]), x)
	slices.SortStableFunc(l, func(a, b []int) int { return scoreOf(p, b) - scoreOf(p, a) })
	return l
}

// proves reports whether potentials prove a bound.
func proves(p [][]int, x velocity.Limits, l [][]int) bool {
	for t := range p {
		for row := range p[t] {
			if l[t][row] < p[t][row] {
				return false
			}
			for next := range p[t] {
				if t+1 < len(p) && keeps(x, []int{row, next}) && l[t][row] < p[t][row]+l[t+1][next] {
					return false
				}
			}
		}
	}
	return true
}

// permitted returns the moments that a pick permits.
func permitted(p velocity.Pick) []int {
	var l []int
	for m := p.Time * (p.Square - p.Error); m <= p.Time*(p.Square+p.Error); m++ {
		l = append(l, m)
	}
	return l
}

// grows reports whether a moment grows in a time as bounds permit.
func grows(by, time int, b api.Interval) bool {
	return by >= b.Low*time && by <= b.High*time
}

// explanations returns all moments that explain picks.
func explanations(l []velocity.Pick, b api.Interval) [][]int {
	all := [][]int{nil}
	time := 0
	for i, p := range l {
		var longer [][]int
		for _, m := range all {
			last := 0
			if i > 0 {
				last = m[i-1]
			}
			for _, next := range permitted(p) {
				if grows(next-last, p.Time-time, b) {
					longer = append(longer, append(slices.Clone(m), next))
				}
			}
		}
		all, time = longer, p.Time
	}
	return all
}

// contradicts reports whether no moments of two picks grow as bounds permit.
func contradicts(p, q velocity.Pick, b api.Interval) bool {
	for _, m := range permitted(p) {
		for _, n := range permitted(q) {
			if grows(n-m, q.Time-p.Time, b) {
				return false
			}
		}
	}
	return true
}

// refusedOf returns the first two picks that contradict each other, and whether there are such.
func refusedOf(l []velocity.Pick, b api.Interval) ([2]int, bool) {
	for i := -1; i < len(l); i++ {
		for j := i + 1; j < len(l); j++ {
			var first velocity.Pick
			if i >= 0 {
				first = l[i]
			}
			if contradicts(first, l[j], b) {
				return [2]int{i, j}, true
			}
		}
	}
	return [2]int{}, false
}
