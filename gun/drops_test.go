package gun_test

import (
	"math"
	"slices"
	"testing"

	"moveout/api"
	"moveout/gun"
)

func rule(direction string, band, least int) gun.Rule {
	return gun.Rule{Direction: direction, Band: band, Least: least}
}

// badRuleList is a list that is no list of rules, with its error.
type badRuleList struct {
	l []gun.Rule
	e api.Errno
}

// badRules returns lists with each error of rules, and with two where their order matters.
func badRules() []badRuleList {
	good := rule("down", 0, 0)
	l := []badRuleList{
		{slices.Repeat([]gun.Rule{good}, 13), api.ErrMany}, {make([]gun.Rule, 13), api.ErrMany},
		{[]gun.Rule{{}}, api.ErrKind}, {[]gun.Rule{rule("up", -1, -1)}, api.ErrKind}, {[]gun.Rule{good, rule("up", 0, 0)}, api.ErrKind},
		{[]gun.Rule{rule("up", 0, 0), rule("down", 3, 0)}, api.ErrKind}, {[]gun.Rule{rule("down", 3, 0), rule("up", 0, 0)}, api.ErrRange},
	}
	for _, d := range noHeadings {
		l = append(l, badRuleList{[]gun.Rule{rule(d, 0, 0)}, api.ErrKind})
	}
	for _, band := range []int{-1, 3, math.MinInt, math.MaxInt} {
		l = append(l, badRuleList{[]gun.Rule{rule("aft", band, 64)}, api.ErrRange}, badRuleList{[]gun.Rule{good, good, rule("aft", band, 65)}, api.ErrRange})
	}
	for _, least := range []int{-1, 65, math.MinInt, math.MaxInt} {
		l = append(l, badRuleList{[]gun.Rule{rule("aft", 2, least)}, api.ErrRange})
	}
	return l
}

// P3.3: CheckRules.
func TestCheckRules(t *testing.T) {
	var edges []gun.Rule
	for _, d := range headings {
		edges = append(edges, rule(d, 0, 64), rule(d, 2, 0))
	}
	for _, l := range [][]gun.Rule{nil, {}, edges, slices.Repeat([]gun.Rule{rule("down", 1, 32)}, 12)} {
		same(t, "CheckRules", gun.CheckRules(l), api.OK)
	}
	for _, x := range badRules() {
		same(t, "CheckRules", []any{x.l, gun.CheckRules(x.l)}, []any{x.l, x.e})
	}
}

// P3.3: Without.
func TestWithout(t *testing.T) {
	four := ofVolumes(4, 3, 2, 1)
	for _, x := range []struct {
		s       gun.String
		dropped []string
		want    []gun.Gun
	}{
		{pair(), nil, pair().Guns},
		{pair(), []string{"a"}, pair().Guns[1:]},
		{pair(), []string{"b"}, pair().Guns[:1]},
		{four, []string{"d", "b"}, []gun.Gun{four.Guns[0], four.Guns[2]}},
		{four, []string{"c", "a", "d"}, four.Guns[1:2]},
		{four, []string{}, four.Guns},
	} {
		s, e := gun.Without(x.s, x.dropped)
		ok(t, "Without", e)
		same(t, "Without", s, gun.String{Guns: x.want})
	}
	// the lags of what is left are its own ones
	s, e := gun.Without(pair(), []string{"a"})
	ok(t, "Without", e)
	n, e := gun.Arrival(s, 0, "fore")
	ok(t, "Arrival", e)
	same(t, "Arrival without the gun in front", n, 1)
}

// P3.3: the errors of Without, in their order.
func TestWithoutErrors(t *testing.T) {
	for _, x := range badStrings() {
		s, e := gun.Without(x.s, []string{"?"})
		fails(t, "Without of "+x.what, s, e, x.e)
	}
	for _, x := range badCalls() {
		s, e := gun.Without(pair(), x.l)
		fails(t, "Without of bad names", s, e, x.e)
	}
	for _, l := range [][]string{{"a", "b"}, {"b", "a"}} {
		s, e := gun.Without(pair(), l)
		fails(t, "Without of all", s, e, api.ErrEmpty)
	}
}

// P3.3: Refused.
func TestRefused(t *testing.T) {
	// without b the bands of S downwards are 2048, 6144, 10240 of 4608, 12800, 8704
	rules := []gun.Rule{rule("down", 1, 32), rule("down", 2, 64), rule("down", 0, 29), rule("down", 0, 28), rule("down", 1, 31), rule("down", 1, 30), rule("down", 0, 0)}
	for _, x := range []struct {
		dropped []string
		width   int
		want    []int
	}{
		{[]string{"b"}, 8, []int{0, 2, 4}},
		{nil, 8, nil},
		{[]string{"a", "b"}, 8, []int{0, 1, 2, 3, 4, 5}},
		{[]string{"b", "a"}, 8, []int{0, 1, 2, 3, 4, 5}},
		{[]string{"a", "b"}, 3, nil},
	} {
		l, e := gun.Refused(pair(), rules, x.dropped, x.width)
		ok(t, "Refused", e)
		same(t, "Refused", []any{x, l}, []any{x, x.want})
	}
	l, e := gun.Refused(pair(), nil, []string{"a", "b"}, 8)
	ok(t, "Refused", e)
	same(t, "Refused without rules", l, []int(nil))
}

// P3.3: the share at its end: 64 times one energy is the least share times the other one, or is not.
func TestRefusedShare(t *testing.T) {
	// one sample of 4 times the volume: a fires alone in the first block; its band 0 is that of both, times the square of 1 by 2
	s := ofVolumes(8, 8)
	for least, want := range map[int][]int{0: nil, 1: nil, 15: nil, 16: nil, 17: {0}, 64: {0}} {
		l, e := gun.Refused(s, []gun.Rule{rule("down", 0, least)}, []string{"b"}, 4)
		ok(t, "Refused", e)
		same(t, "Refused by a share", []any{least, l}, []any{least, want})
	}
}

// P3.3: Refused takes the least shifts, and the lags of the whole string.
func TestRefusedLags(t *testing.T) {
	s := ofVolumes(8, 8, 1)
	s.Guns[1].At, s.Guns[2].At = at(-45, 0), at(-45, 0)
	// without a the bubble of b begins at 3 still: the first block is 0, 0, 0, 32 and not 32, 0, -16, 0; that of the whole string is 32, 0, -16, 36
	for least, want := range map[int][]int{18: nil, 19: {0}, 40: {0}} {
		l, e := gun.Refused(s, []gun.Rule{rule("fore", 1, least)}, []string{"a", "c"}, 4)
		ok(t, "Refused", e)
		same(t, "Refused to the fore", []any{least, l}, []any{least, want})
	}
	shifted := ofVolumes(8, 8)
	shifted.Guns[0].Shift, shifted.Guns[1].Shift = span(1, 4), span(0, 3)
	// the first block is 64, 0, -16, -16, without b 32, 0, 0, -16: the band 2 is 64 squared, and 48 squared
	for least, want := range map[int][]int{36: nil, 37: {0}} {
		l, e := gun.Refused(shifted, []gun.Rule{rule("down", 2, least)}, []string{"b"}, 4)
		ok(t, "Refused", e)
		same(t, "Refused with the least shifts", []any{least, l}, []any{least, want})
	}
}

// P3.3: the errors of Refused and of Largest, in their order.
func TestRefusedErrors(t *testing.T) {
	for _, x := range badStrings() {
		i, e := gun.Refused(x.s, []gun.Rule{{}}, []string{"?"}, 0)
		fails(t, "Refused of "+x.what, i, e, x.e)
		l, e := gun.Largest(x.s, []gun.Rule{{}}, 0)
		fails(t, "Largest of "+x.what, l, e, x.e)
	}
	for _, x := range badRules() {
		i, e := gun.Refused(pair(), x.l, []string{"?"}, 0)
		fails(t, "Refused by bad rules", i, e, x.e)
		l, e := gun.Largest(pair(), x.l, 0)
		fails(t, "Largest by bad rules", l, e, x.e)
	}
	for _, x := range badCalls() {
		i, e := gun.Refused(pair(), nil, x.l, 0)
		fails(t, "Refused of bad names", i, e, x.e)
	}
	for _, width := range badWidths {
		i, e := gun.Refused(pair(), nil, nil, width)
		fails(t, "Refused with a bad width", i, e, api.ErrRange)
		l, e := gun.Largest(pair(), nil, width)
		fails(t, "Largest with a bad width", l, e, api.ErrRange)
	}
}

// P3.3: Largest.
func TestLargest(t *testing.T) {
	rules := []gun.Rule{rule("down", 1, 32), rule("down", 2, 64)}
	for _, x := range []struct {
		what  string
		s     gun.String
		l     []gun.Rule
		width int
		want  []string
	}{
		{"no rules", pair(), nil, 8, []string{"a", "b"}},
		{"a rule that refuses nothing", pair(), []gun.Rule{rule("down", 0, 0)}, 8, []string{"a", "b"}},
		{"the rules of the chapter", pair(), rules, 8, nil},
		{"the second one of them", pair(), rules[1:], 8, []string{"b"}},
		{"the second one of them, without a block", pair(), rules[1:], 3, []string{"a", "b"}},
		{"the same bubbles", ofVolumes(8, 8, 8, 8), []gun.Rule{rule("down", 0, 16)}, 4, []string{"a", "b"}},
		{"the same bubbles, a bit more of them", ofVolumes(8, 8, 8, 8), []gun.Rule{rule("down", 0, 17)}, 4, []string{"a"}},
		{"all of them", ofVolumes(8, 8, 8, 8), []gun.Rule{rule("down", 0, 64)}, 4, nil},
		{"a gun that has to fire", ofVolumes(40, 8, 8, 8), []gun.Rule{rule("down", 0, 16)}, 4, []string{"b", "c", "d"}},
		{"one of two guns has to fire", ofVolumes(8, 40, 8, 40), []gun.Rule{rule("down", 0, 9)}, 4, []string{"a", "b", "c"}},
	} {
		l, e := gun.Largest(x.s, x.l, x.width)
		ok(t, "Largest of "+x.what, e)
		same(t, "Largest of "+x.what, l, x.want)
	}
	l, e := gun.Largest(ofVolumes(1, 1, 1, 1, 1, 1, 1, 1), nil, 1)
	ok(t, "Largest", e)
	same(t, "Largest of eight", l, []string{"a", "b", "c", "d", "e", "f", "g", "h"})
}

// P3.3: Refused and Largest, by the definitions.
func TestDropsSmall(t *testing.T) {
	r := random(6)
	sizes := map[int]int{}
	for range 150 {
		s := r.string(6, 5, 80)
		rules := r.rules(12)
		for i := range rules {
			rules[i].Least /= 1 + r.below(4)
		}
		width := 1 + r.below(64)
		dropped := r.names(s)
		i, e := gun.Refused(s, rules, dropped, width)
		ok(t, "Refused", e)
		same(t, "Refused", []any{s, rules, dropped, width, i}, []any{s, rules, dropped, width, refusedOf(s, rules, dropped, width)})
		l, e := gun.Largest(s, rules, width)
		ok(t, "Largest", e)
		same(t, "Largest", []any{s, rules, width, l}, []any{s, rules, width, largestOf(s, rules, width)})
		sizes[len(l)]++
	}
	for size := range 4 {
		if sizes[size] < 5 {
			t.Errorf("%d guns were the largest drop-outs %d times alone", size, sizes[size])
		}
	}
}
