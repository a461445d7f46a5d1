package horizon_test

import (
	"testing"

	"moveout/api"
	"moveout/horizon"
)

// P8.1: Crossing.
func TestCrossings(t *testing.T) {
	for _, x := range []struct {
		a, b    horizon.Horizon
		place   int
		crosses bool
	}{
		{top(), base(), 2, true}, {base(), top(), 1, true}, {top(), top(), 0, false},
		// equal times do not cross, nor do bands
		{named("a", 0, 1, 104), base(), 0, false}, {named("a", 0, 1, 105), base(), 1, true}, {named("a", 1000, 1, 103), base(), 0, false},
		// by less than 1
		{named("a", 0, 0, 0, 3, 1), named("b", 0, 0, 0, 2, 1), 0, false}, {named("b", 0, 0, 0, 2, 1), named("a", 0, 0, 0, 3, 1), 1, true}, {named("a", 0, 0, 100000, 255, 99999), named("b", 0, 0, 100000, 254, 99999), 1, true}, {named("b", 0, 0, 100000, 254, 99999), named("a", 0, 0, 100000, 255, 99999), 0, false},
		// where neither has a pick
		{named("a", 0, 0, 10, 9, 10), named("b", 0, 0, 19, 9, 1), 5, true}, {named("a", 0, 0, 0, 9, 11), named("b", 0, 2, 5, 8, 5), 5, true},
		// only at places that both have
		{named("a", 0, 0, 9, 4, 1), named("b", 0, 4, 1, 9, 0), 0, false}, {named("a", 0, 0, 9, 4, 2), named("b", 0, 4, 1, 9, 0), 4, true}, {named("a", 0, 2, 3, 5, 0), named("b", 0, 0, 9, 5, 0), 0, false}, {named("a", 0, 3, 105), base(), 3, true},
		// the place 0 and the last one
		{named("a", 0, 0, 2, 255, 1), named("b", 0, 0, 1, 255, 1), 0, true}, {named("a", 0, 0, 1, 254, 1, 255, 2), named("b", 0, 0, 1, 255, 1), 255, true},
	} {
		place, crosses, e := horizon.Crossing(x.a, x.b)
		ok(t, "Crossing", e)
		same(t, "Crossing", []any{place, crosses}, []any{x.place, x.crosses})
	}
}

// P8.1: Ordered.
func TestOrdered(t *testing.T) {
	above, below := named("above", 0, 0, 1, 9, 1), named("below", 0, 0, 9, 9, 9)
	for _, x := range []struct {
		l       []horizon.Horizon
		first   [3]int
		crosses bool
	}{
		{nil, [3]int{}, false}, {list(top()), [3]int{}, false}, {two(), [3]int{}, false}, {many(8), [3]int{}, false},
		{list(top(), base()), [3]int{0, 1, 2}, true}, {list(base(), top()), [3]int{0, 1, 1}, true}, {list(above, below), [3]int{}, false}, {list(below, above), [3]int{0, 1, 0}, true},
		// pairs without a common place do not cross, those that are no neighbours may
		{list(named("a", 0, 100, 5), top(), named("b", 0, 0, 0), named("c", 0, 0, 99)), [3]int{1, 2, 0}, true},
		{list(below, named("far", 0, 20, 5), above), [3]int{0, 2, 0}, true}, {list(named("far", 0, 20, 9), above, below, named("more", 0, 20, 8)), [3]int{0, 3, 20}, true},
		// the first index comes before the second one, and both before the place
		{list(named("a", 0, 0, 1, 9, 7), named("b", 0, 0, 9, 9, 9), named("c", 0, 5, 2, 9, 2), named("d", 0, 0, 0, 9, 9)), [3]int{0, 2, 5}, true},
		{list(named("a", 0, 0, 1, 8, 1, 9, 3), named("b", 0, 0, 3, 9, 3), named("c", 0, 0, 2, 9, 2)), [3]int{0, 2, 9}, true},
		{list(above, named("b", 0, 0, 5, 9, 5), named("c", 0, 0, 6, 9, 4), named("d", 0, 0, 4, 9, 9)), [3]int{1, 2, 5}, true},
	} {
		first, crosses, e := horizon.Ordered(x.l)
		ok(t, "Ordered", e)
		same(t, "Ordered", []any{first, crosses}, []any{x.first, x.crosses})
	}
}

// P8.1: crossings are those of the definition.
func TestCrossingsByDefinition(t *testing.T) {
	r := random(2)
	crossed := map[bool]int{}
	for range 1000 {
		a, b := r.horizon("a", 4, 0, 12), r.horizon("b", 4, 8, 20)
		if len(commonOf(a, b)) == 0 {
			place, crosses, e := horizon.Crossing(a, b)
			fails(t, "Crossing without a common place", e, api.ErrNone, place, crosses)
			continue
		}
		place, crosses, e := horizon.Crossing(a, b)
		ok(t, "Crossing", e)
		wantPlace, wantCrosses := crossingOf(a, b)
		same(t, "Crossing", []any{place, crosses}, []any{wantPlace, wantCrosses})
		l := list(a, b, r.horizon("c", 4, 16, 30), r.horizon("d", 4, 18, 40))
		first, crosses, e := horizon.Ordered(l)
		ok(t, "Ordered", e)
		wantFirst, wantCrosses := orderedOf(l)
		same(t, "Ordered", []any{first, crosses}, []any{wantFirst, wantCrosses})
		crossed[crosses]++
	}
	if crossed[true] < 100 || crossed[false] < 100 {
		t.Errorf("lists with and without a crossing: %v", crossed)
	}
}

// P8.1: the errors of Crossing and Ordered.
func TestCrossingErrors(t *testing.T) {
	for _, x := range badHorizons() {
		for _, h := range list(top(), named("far", 0, 200, 0), horizon.Horizon{}) {
			place, crosses, e := horizon.Crossing(x.h, h)
			fails(t, "Crossing of "+x.what, e, x.e, place, crosses)
		}
		for _, h := range list(top(), named("far", 0, 200, 0)) {
			place, crosses, e := horizon.Crossing(h, x.h)
			fails(t, "Crossing with "+x.what, e, x.e, place, crosses)
		}
	}
	for _, x := range [][2]horizon.Horizon{{top(), named("b", 0, 7, 1)}, {named("b", 0, 7, 1), top()}, {named("a", 0, 0, 9), named("b", 0, 1, 1)}, {named("a", 0, 255, 1), named("b", 0, 0, 1, 254, 1)}} {
		place, crosses, e := horizon.Crossing(x[0], x[1])
		fails(t, "Crossing without a common place", e, api.ErrNone, place, crosses)
	}
	for _, x := range badLists() {
		first, crosses, e := horizon.Ordered(x.l)
		fails(t, "Ordered of "+x.what, e, x.e, first, crosses)
	}
}
