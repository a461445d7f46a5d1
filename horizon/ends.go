package horizon

import (
	"iter"

	"moveout/api"
)

// ends are the least and the greatest integer of an interval.
type ends [2]int

// nothing stands for the ends of an interval without an integer.
var nothing = ends{1, 0}

// shared returns the ends of what two intervals have in common, or nothing.
func shared(a, b ends) ends {
	both := ends{max(a[0], b[0]), min(a[1], b[1])}
	if both[0] > both[1] {
		return nothing
	}
	return both
}

// moved returns the ends of an interval that is moved by a number.
func (x ends) moved(by int) ends {
	return ends{x[0] + by, x[1] + by}
}

// interval returns the interval with some ends.
func (x ends) interval() api.Interval {
	return api.Interval{Low: x[0], High: x[1]}
}

// integers visits the integers of an interval, from the least one on.
func (x ends) integers() iter.Seq[int] {
	return func(yield func(int) bool) {
		for i := range x[1] - x[0] + 1 {
			if !yield(x[0] + i) {
				return
			}
		}
	}
}
