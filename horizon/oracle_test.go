package horizon_test

import (
	"math/big"
	"slices"

	"moveout/api"
	"moveout/horizon"
)

// The functions of this file follow the definitions of the chapter word by word, for small arguments.

// absolute returns the absolute value of a number.
func absolute(n int) int {
	return max(n, -n)
}

// placesOf returns the places that a horizon has.
func placesOf(h horizon.Horizon) []int {
	var l []int
	for place := h.Picks[0].Place; place <= h.Picks[len(h.Picks)-1].Place; place++ {
		l = append(l, place)
	}
	return l
}

// commonOf returns the common places of two horizons.
func commonOf(a, b horizon.Horizon) []int {
	return slices.DeleteFunc(placesOf(a), func(place int) bool { return !slices.Contains(placesOf(b), place) })
}

// timeOf returns the time of a horizon at a place that it has.
func timeOf(h horizon.Horizon, place int) *big.Rat {
	for i, p := range h.Picks {
		if p.Place == place {
			return big.NewRat(int64(p.Time), 1)
		}
		if p.Place > place {
			before := h.Picks[i-1]
			slope := big.NewRat(int64(p.Time-before.Time), int64(p.Place-before.Place))
			x := slope.Mul(slope, big.NewRat(int64(place-before.Place), 1))
			return x.Add(x, big.NewRat(int64(before.Time), 1))
		}
	}
	return nil
}

// ratioOf returns a ratio.
func ratioOf(x *big.Rat) api.Ratio {
	return ratio(int(x.Num().Int64()), int(x.Denom().Int64()))
}

// floorOf returns the greatest integer that is not above a number.
func floorOf(x *big.Rat) int {
	return int(new(big.Int).Div(x.Num(), x.Denom()).Int64())
}

// ceilingOf returns the least integer that is not below a number.
func ceilingOf(x *big.Rat) int {
	return -floorOf(new(big.Rat).Neg(x))
}

// bandOf returns the band of a horizon at a place that it has.
func bandOf(h horizon.Horizon, place int) api.Interval {
	x := timeOf(h, place)
	return span(floorOf(x)-h.Error, ceilingOf(x)+h.Error)
}

// crossingOf returns the first common place at which a horizon crosses another one, and whether there is one.
func crossingOf(a, b horizon.Horizon) (int, bool) {
	for _, place := range commonOf(a, b) {
		if timeOf(a, place).Cmp(timeOf(b, place)) > 0 {
			return place, true
		}
	}
	return 0, false
}

// orderedOf returns the first crossing of a list, and whether there is one.
func orderedOf(l []horizon.Horizon) ([3]int, bool) {
	for i := range l {
		for j := range l {
			if place, crosses := crossingOf(l[i], l[j]); i < j && crosses {
				return [3]int{i, j, place}, true
			}
		}
	}
	return [3]int{}, false
}

// faultedOf returns a faulted horizon.
func faultedOf(h horizon.Horizon, f horizon.Fault) horizon.Horizon {
	out := horizon.Horizon{Name: h.Name, Error: h.Error}
	for _, p := range h.Picks {
		if p.Place >= f.Place {
			p.Time += f.Throw
		}
		out.Picks = append(out.Picks, p)
	}
	return out
}

// stepsOf returns the steps of a horizon by a slope.
func stepsOf(h horizon.Horizon, slope int) []int {
	var l []int
	for i := 1; i < len(h.Picks); i++ {
		if absolute(h.Picks[i].Time-h.Picks[i-1].Time) > slope*(h.Picks[i].Place-h.Picks[i-1].Place) {
			l = append(l, h.Picks[i].Place)
		}
	}
	return l
}

// filledOf returns a filled horizon.
func filledOf(h horizon.Horizon) horizon.Horizon {
	out := horizon.Horizon{Name: h.Name, Error: h.Error}
	for _, place := range placesOf(h) {
		x := timeOf(h, place)
		// The nearest integer, from the middle the greater one, is the floor of what is greater by a half.
		out.Picks = append(out.Picks, horizon.Pick{Place: place, Time: floorOf(x.Add(x, big.NewRat(1, 2)))})
	}
	return out
}

// depthsOf returns the depths of horizons at a place that all of them have.
func depthsOf(l []horizon.Horizon, v []api.Interval, place int) []api.Interval {
	bands, depths := []api.Interval{span(0, 0)}, []api.Interval{span(0, 0)}
	for i, h := range l {
		band := bandOf(h, place)
		thick := span(max(band.Low-bands[i].High, 0), max(band.High-bands[i].Low, 0))
		bands = append(bands, band)
		depths = append(depths, span(depths[i].Low+thick.Low*v[i].Low, depths[i].High+thick.High*v[i].High))
	}
	return depths[1:]
}

// meets reports whether two intervals have an integer in common.
func meets(a, b api.Interval) bool {
	for n := a.Low; n <= a.High; n++ {
		if b.Low <= n && n <= b.High {
			return true
		}
	}
	return false
}

// mistiesOf returns the indices of the wells that contradict horizons with velocities.
func mistiesOf(l []horizon.Horizon, v []api.Interval, wells []horizon.Well) []int {
	var out []int
	for i, w := range wells {
		if !meets(span(w.Depth-w.Error, w.Depth+w.Error), depthsOf(l[:w.Horizon+1], v, w.Place)[w.Horizon]) {
			out = append(out, i)
		}
	}
	return out
}

// isFactor reports whether a number from 512 to 2048 is a factor.
func isFactor(l []horizon.Horizon, v []api.Interval, wells []horizon.Well, factor int) bool {
	for _, w := range wells {
		depth := depthsOf(l[:w.Horizon+1], v, w.Place)[w.Horizon]
		if factor*depth.High < 1024*(w.Depth-w.Error) || factor*depth.Low > 1024*(w.Depth+w.Error) {
			return false
		}
	}
	return true
}

// factorsOf returns all factors.
func factorsOf(l []horizon.Horizon, v []api.Interval, wells []horizon.Well) []int {
	var out []int
	for factor := 512; factor <= 2048; factor++ {
		if isFactor(l, v, wells, factor) {
			out = append(out, factor)
		}
	}
	return out
}

// isBorder reports whether a cell of a map is of the border.
func isBorder(m horizon.Map, cell int) bool {
	c, r := cell%m.Columns, cell/m.Columns
	return c == 0 || r == 0 || c == m.Columns-1 || r == m.Rows-1
}

// areNeighbours reports whether two cells of a map are neighbours.
func areNeighbours(m horizon.Map, a, b int) bool {
	return absolute(a%m.Columns-b%m.Columns)+absolute(a/m.Columns-b/m.Columns) == 1
}

// lowsOf and highsOf return one depth for each cell.
func lowsOf(m horizon.Map) []int {
	var l []int
	for _, x := range m.Depths {
		l = append(l, x.Low)
	}
	return l
}

func highsOf(m horizon.Map) []int {
	var l []int
	for _, x := range m.Depths {
		l = append(l, x.High)
	}
	return l
}

// spillOf returns the spill of a cell by depths: what the ways to the border have as their deepest cell becomes less until it does not any more.
func spillOf(m horizon.Map, depths []int, cell int) int {
	spills := slices.Repeat(ints(1<<40), len(depths))
	for changed := true; changed; {
		changed = false
		for a := range depths {
			least := spills[a]
			if isBorder(m, a) {
				least = depths[a]
			}
			for b := range depths {
				if areNeighbours(m, a, b) {
					least = min(least, max(depths[a], spills[b]))
				}
			}
			changed = changed || least < spills[a]
			spills[a] = least
		}
	}
	return spills[cell]
}

// regionOf returns the region of a cell by depths and a contact: it becomes larger by neighbours until it does not any more.
func regionOf(m horizon.Map, depths []int, cell, contact int) []int {
	in := make([]bool, len(depths))
	in[cell] = depths[cell] < contact
	for changed := true; changed; {
		changed = false
		for a := range depths {
			for b := range depths {
				if in[a] && !in[b] && areNeighbours(m, a, b) && depths[b] < contact {
					in[b], changed = true, true
				}
			}
		}
	}
	var l []int
	for a := range depths {
		if in[a] {
			l = append(l, a)
		}
	}
	return l
}

// volumeOf returns the volume of the region of a cell by depths and a contact.
func volumeOf(m horizon.Map, depths []int, cell, contact int) int {
	sum := 0
	for _, a := range regionOf(m, depths, cell, contact) {
		sum += contact - depths[a]
	}
	return sum
}

// differOf returns the places at which two horizons differ by a shift.
func differOf(a, b horizon.Horizon, shift int) []int {
	return slices.DeleteFunc(commonOf(a, b), func(place int) bool {
		moved := bandOf(b, place)
		return meets(bandOf(a, place), span(moved.Low+shift, moved.High+shift))
	})
}

// matchOf returns the match of two horizons within a number.
func matchOf(a, b horizon.Horizon, most int) int {
	best := 0
	for size := range most + 1 {
		for _, shift := range ints(-size, size) {
			// The shifts come from the best one to the worst one: a later one must have fewer differences.
			if len(differOf(a, b, shift)) < len(differOf(a, b, best)) {
				best = shift
			}
		}
	}
	return best
}

// groundOf returns the common ground of two horizons by a shift; an interval is nil if it is empty.
func groundOf(a, b horizon.Horizon, shift int) [][]int {
	var out [][]int
	for _, place := range commonOf(a, b) {
		first, second := bandOf(a, place), bandOf(b, place)
		var l []int
		for n := first.Low; n <= first.High; n++ {
			if second.Low+shift <= n && n <= second.High+shift {
				l = append(l, n)
			}
		}
		out = append(out, l)
	}
	return out
}
