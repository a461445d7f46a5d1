package gun_test

import (
	"slices"
	"testing"

	"moveout/api"
	"moveout/gun"
)

// P3.5: SoftStart.
func TestSoftStart(t *testing.T) {
	for _, x := range []struct {
		s    gun.String
		want [][]string
	}{
		{ofVolumes(5), [][]string{{"a"}}},
		{ofVolumes(8, 16, 16), [][]string{{"a"}, {"b"}, {"c"}}},
		{ofVolumes(16, 8, 8), [][]string{{"b"}, {"c"}, {"a"}}},
		{ofVolumes(16, 16, 8), [][]string{{"c"}, {"a"}, {"b"}}},
		{ofVolumes(1, 64), [][]string{{"a"}, {"b"}}},
		{ofVolumes(4, 4, 4, 4, 4, 4, 4, 4), [][]string{{"a"}, {"b"}, {"c", "d"}, {"e", "f", "g", "h"}}},
		// 4, 8, then 12 and not 17, then 17 is above 24, but alone, and then the rest
		{ofVolumes(4, 4, 4, 5, 20, 20), [][]string{{"a"}, {"b"}, {"c"}, {"d"}, {"e"}, {"f"}}},
		{ofVolumes(4, 4, 4, 4, 5), [][]string{{"a"}, {"b"}, {"c", "d"}, {"e"}}},
		{ofVolumes(10, 10, 9, 1), [][]string{{"d"}, {"c"}, {"a"}, {"b"}}},
		{ofVolumes(6, 1, 2, 3), [][]string{{"b"}, {"c"}, {"d"}, {"a"}}},
		{ofVolumes(3, 2, 1, 1, 1, 1), [][]string{{"c"}, {"d"}, {"e", "f"}, {"b"}, {"a"}}},
	} {
		l, e := gun.SoftStart(x.s)
		ok(t, "SoftStart", e)
		same(t, "SoftStart", []any{x.s, l}, []any{x.s, x.want})
	}
	for _, x := range badStrings() {
		l, e := gun.SoftStart(x.s)
		fails(t, "SoftStart of "+x.what, l, e, x.e)
	}
	r := random(8)
	for range 500 {
		s := r.string(8, 1, 0)
		l, e := gun.SoftStart(s)
		ok(t, "SoftStart", e)
		same(t, "SoftStart", []any{s, l}, []any{s, stepsOf(s)})
	}
}

// P3.5: CheckStart.
func TestCheckStart(t *testing.T) {
	three := ofVolumes(16, 8, 8)
	for _, x := range []struct {
		s gun.String
		l [][]string
		e api.Errno
	}{
		{three, [][]string{{"b"}, {"c"}, {"a"}}, api.OK},
		{three, [][]string{{"c"}, {"b"}, {"a"}}, api.OK},
		{three, [][]string{{"c"}, {"b", "a"}}, api.ErrRule},
		{three, [][]string{{"a"}, {"b"}, {"c"}}, api.ErrRule},
		{three, [][]string{{"a"}, {"b", "c"}}, api.ErrRule},
		{three, [][]string{{"b", "c"}, {"a"}}, api.ErrRule},
		{three, [][]string{{"a", "b", "c"}}, api.ErrRule},
		// a is not the least gun that waits, and 24 is more than twice 8
		{three, [][]string{{"b"}, {"a"}, {"c"}}, api.ErrRule},
		{ofVolumes(9), [][]string{{"a"}}, api.OK},
		{ofVolumes(8, 8), [][]string{{"a", "b"}}, api.ErrRule},
		{ofVolumes(8, 8), [][]string{{"b"}, {"a"}}, api.OK},
		// a step of two that doubles, and one that is more than double by 1
		{ofVolumes(4, 4, 4, 4), [][]string{{"d"}, {"a"}, {"c", "b"}}, api.OK},
		{ofVolumes(4, 4, 4, 5), [][]string{{"a"}, {"b"}, {"c", "d"}}, api.ErrRule},
		{ofVolumes(4, 4, 4, 5), [][]string{{"a"}, {"b"}, {"d"}, {"c"}}, api.OK},
		{ofVolumes(4, 4, 4, 5), [][]string{{"a"}, {"d"}, {"b"}, {"c"}}, api.ErrRule},
		// the first step has to be the least gun, also where it would be alone
		{ofVolumes(4, 5), [][]string{{"b"}, {"a"}}, api.ErrRule},
		{ofVolumes(4, 5), [][]string{{"a"}, {"b"}}, api.OK},
		{ofVolumes(4, 20, 64), [][]string{{"a"}, {"b"}, {"c"}}, api.OK},
		{ofVolumes(4, 20, 64), [][]string{{"a"}, {"c"}, {"b"}}, api.ErrRule},
		// a greater gun first is permitted where it does not double
		{ofVolumes(10, 10, 11, 20), [][]string{{"a"}, {"b"}, {"d"}, {"c"}}, api.OK},
		{ofVolumes(10, 10, 11, 21), [][]string{{"a"}, {"b"}, {"d"}, {"c"}}, api.ErrRule},
	} {
		same(t, "CheckStart", []any{x.s, x.l, gun.CheckStart(x.s, x.l)}, []any{x.s, x.l, x.e})
	}
}

// P3.5: the errors of CheckStart, in their order.
func TestCheckStartErrors(t *testing.T) {
	for _, x := range badStrings() {
		same(t, "CheckStart of "+x.what, gun.CheckStart(x.s, [][]string{{}}), x.e)
	}
	for _, x := range badCalls() {
		one := [][]string{x.l}
		var each [][]string
		for _, name := range x.l {
			each = append(each, []string{name})
		}
		for _, l := range [][][]string{one, each, append(slices.Clone(one), nil), append(slices.Clone(each), nil)} {
			same(t, "CheckStart of bad names", []any{l, gun.CheckStart(pair(), l)}, []any{l, x.e})
		}
	}
	for _, l := range [][][]string{{{}}, {nil}, {{"a"}, {}}, {{"a"}, nil, {"c"}}, {nil, {"a", "a"}}, {{"b"}, {"a"}, {}}} {
		same(t, "CheckStart of an empty step", []any{l, gun.CheckStart(pair(), l)}, []any{l, api.ErrEmpty})
	}
	for _, l := range [][][]string{nil, {}, {{"a"}}, {{"b"}}} {
		same(t, "CheckStart without a gun", []any{l, gun.CheckStart(pair(), l)}, []any{l, api.ErrOpen})
	}
	same(t, "CheckStart without a gun before the rule", gun.CheckStart(ofVolumes(1, 1, 8), [][]string{{"c", "b"}}), api.ErrOpen)
	same(t, "CheckStart of a name twice in two steps", gun.CheckStart(pair(), [][]string{{"b"}, {"a"}, {"b"}}), api.ErrTwice)
}

// P3.5: CheckStart of all soft starts of small strings, by the definition.
func TestCheckStartSmall(t *testing.T) {
	r := random(9)
	count := map[bool]int{}
	for range 40 {
		s := r.string(5, 1, 0)
		var names []string
		for i := range s.Guns {
			s.Guns[i].Volume = 1 + r.below(5)
			names = append(names, s.Guns[i].Name)
		}
		for _, order := range orders(names) {
			for _, l := range partings(order) {
				want := api.ErrRule
				if permitted(s, l) {
					want = api.OK
				}
				count[want == api.OK]++
				same(t, "CheckStart", []any{s, l, gun.CheckStart(s, l)}, []any{s, l, want})
			}
		}
	}
	if count[true] < 100 || count[false] < 100 {
		t.Errorf("%d soft starts were permitted, %d were not", count[true], count[false])
	}
}
