package gun_test

import (
	"math"
	"slices"

	"moveout/gun"
)

// The functions of this file follow the definitions of the chapter word by word, for small arguments.

// bubbleAt returns the integer of a bubble at an index from its begin on.
func bubbleAt(volume, shift, index int) int {
	period := 4 + int(math.Floor(float64(volume)/8)) + shift
	switch index {
	case 0:
		return 4 * volume
	case int(math.Floor(float64(period) / 2)):
		return -2 * volume
	case period:
		return 2 * volume
	case 2 * period:
		return volume
	}
	return 0
}

// arrivalOf returns the tick at which the bubble of a gun begins.
func arrivalOf(s gun.String, i int, direction string) int {
	var xs, ys []int
	for _, g := range s.Guns {
		xs, ys = append(xs, g.At.X), append(ys, g.At.Y)
	}
	g := s.Guns[i]
	distance := map[string]int{
		"down":      0,
		"fore":      slices.Max(xs) - g.At.X,
		"aft":       g.At.X - slices.Min(xs),
		"port":      slices.Max(ys) - g.At.Y,
		"starboard": g.At.Y - slices.Min(ys),
	}[direction]
	return g.Fires + int(math.Floor(float64(distance)/15))
}

// signatureOf returns the integers of the signature of a string in which some guns alone fire.
func signatureOf(s gun.String, fires func(name string) bool, shifts []int, direction string, width int) []int {
	l := make([]int, width)
	for index := range l {
		for i, g := range s.Guns {
			if begins := arrivalOf(s, i, direction); fires(g.Name) && index >= begins {
				l[index] += bubbleAt(g.Volume, shifts[i], index-begins)
			}
		}
	}
	return l
}

func all(string) bool { return true }

// leastOf returns the least shift of each gun.
func leastOf(s gun.String) []int {
	var l []int
	for _, g := range s.Guns {
		l = append(l, g.Shift.Low)
	}
	return l
}

// shiftsOf returns all permitted shifts of a string, a lesser shift first.
func shiftsOf(s gun.String) [][]int {
	every := [][]int{nil}
	for _, g := range s.Guns {
		var longer [][]int
		for _, l := range every {
			for shift := g.Shift.Low; shift <= g.Shift.High; shift++ {
				longer = append(longer, append(slices.Clone(l), shift))
			}
		}
		every = longer
	}
	return every
}

// explanationOf returns the first shifts that explain integers, or false.
func explanationOf(s gun.String, direction string, l []int) ([]int, bool) {
	for _, shifts := range shiftsOf(s) {
		if slices.Equal(signatureOf(s, all, shifts, direction, len(l)), l) {
			return shifts, true
		}
	}
	return nil, false
}

// bandsOf returns the bands of samples with some integers: the squared lengths of the sums of the samples times the powers of 1, -i and -1.
func bandsOf(l []int) [3]int {
	var out [3]int
	for from := 0; from+4 <= len(l); from += 4 {
		for band, base := range []complex128{1, -1i, -1} {
			sum, power := complex128(0), complex128(1)
			for _, n := range l[from : from+4] {
				sum += complex(float64(n), 0) * power
				power *= base
			}
			out[band] += int(real(sum)*real(sum) + imag(sum)*imag(sum))
		}
	}
	return out
}

// refusedOf returns the rules that refuse drop-outs.
func refusedOf(s gun.String, rules []gun.Rule, dropped []string, width int) []int {
	fires := func(name string) bool { return !slices.Contains(dropped, name) }
	var l []int
	for i, r := range rules {
		without := bandsOf(signatureOf(s, fires, leastOf(s), r.Direction, width))
		with := bandsOf(signatureOf(s, all, leastOf(s), r.Direction, width))
		if 64*without[r.Band] < r.Least*with[r.Band] {
			l = append(l, i)
		}
	}
	return l
}

// setsOf returns all sets of so many of the integers from 0 on before n, the first ones first.
func setsOf(n, size int) [][]int {
	every := [][]int{nil}
	for range size {
		var longer [][]int
		for _, l := range every {
			from := 0
			if len(l) > 0 {
				from = l[len(l)-1] + 1
			}
			for i := from; i < n; i++ {
				longer = append(longer, append(slices.Clone(l), i))
			}
		}
		every = longer
	}
	return every
}

// largestOf returns the largest drop-outs.
func largestOf(s gun.String, rules []gun.Rule, width int) []string {
	for size := len(s.Guns); size > 0; size-- {
		for _, set := range setsOf(len(s.Guns), size) {
			var dropped []string
			for _, i := range set {
				dropped = append(dropped, s.Guns[i].Name)
			}
			if len(refusedOf(s, rules, dropped, width)) == 0 {
				return dropped
			}
		}
	}
	return nil
}

// volumesOf returns the volumes of the guns by their names.
func volumesOf(s gun.String) map[string]int {
	volumes := map[string]int{}
	for _, g := range s.Guns {
		volumes[g.Name] = g.Volume
	}
	return volumes
}

// permitted reports whether steps, with each gun of the string in one of them, are a permitted soft start.
func permitted(s gun.String, steps [][]string) bool {
	waiting := volumesOf(s)
	firing := 0
	for i, step := range steps {
		single := len(step) == 1
		for _, v := range waiting {
			single = single && v >= waiting[step[0]]
		}
		before := firing
		for _, name := range step {
			firing += waiting[name]
			delete(waiting, name)
		}
		double := i > 0 && firing <= 2*before
		if len(step) == 0 || !single && !double {
			return false
		}
	}
	return true
}

// stepsOf returns the soft start of a string.
func stepsOf(s gun.String) [][]string {
	var order []gun.Gun
	for v := 1; v <= 64; v++ {
		for _, g := range s.Guns {
			if g.Volume == v {
				order = append(order, g)
			}
		}
	}
	sum := func(l []gun.Gun) int {
		n := 0
		for _, g := range l {
			n += g.Volume
		}
		return n
	}
	steps := [][]string{{order[0].Name}}
	for from := 1; from < len(order); {
		to := from + 1
		for i := from + 1; i <= len(order); i++ {
			if sum(order[:i]) <= 2*sum(order[:from]) {
				to = i
			}
		}
		var step []string
		for _, g := range order[from:to] {
			step = append(step, g.Name)
		}
		steps = append(steps, step)
		from = to
	}
	return steps
}

// orders returns all orders of some names.
func orders(l []string) [][]string {
	if len(l) == 0 {
		return [][]string{nil}
	}
	var out [][]string
	for i, name := range l {
		for _, rest := range orders(slices.Delete(slices.Clone(l), i, i+1)) {
			out = append(out, append([]string{name}, rest...))
		}
	}
	return out
}

// partings returns all ways to part a list into steps that are not empty.
func partings(l []string) [][][]string {
	if len(l) == 0 {
		return [][][]string{nil}
	}
	var out [][][]string
	for n := 1; n <= len(l); n++ {
		for _, rest := range partings(l[n:]) {
			out = append(out, append([][]string{l[:n]}, rest...))
		}
	}
	return out
}
