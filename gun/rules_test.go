package gun_test

import (
	"math"
	"reflect"
	"slices"
	"strings"
	"testing"

	"moveout/api"
	"moveout/gun"
)

// numbers are integers of any size.
var numbers = []int{math.MinInt, -1001, -1, 0, 1, 2, 4, 5, 8, 16, 17, 64, 65, 1000, 1001, 100000, 100001, math.MaxInt}

// crowd returns so many guns with different names.
func crowd(count int) gun.String {
	var s gun.String
	for i := range count {
		s.Guns = append(s.Guns, gun.Gun{Name: "g" + strings.Repeat("_", i%20) + string(rune('a'+i/20)), Volume: 1})
	}
	return s
}

// oddStrings returns strings of guns of any form.
func oddStrings() []gun.String {
	l := []gun.String{pair(), ofVolumes(64), free(), crowd(8), crowd(500), {Guns: make([]gun.Gun, 100000)}}
	for _, x := range badStrings() {
		l = append(l, x.s)
	}
	for _, n := range numbers {
		l = append(l,
			badGun(func(g *gun.Gun) { g.Volume, g.At, g.Fires, g.Shift = n, at(n, n), n, span(n, n) }),
			badGun(func(g *gun.Gun) { g.Volume = n }),
			badGun(func(g *gun.Gun) { g.At = at(n, -n) }),
			badGun(func(g *gun.Gun) { g.Fires = n }),
			badGun(func(g *gun.Gun) { g.Shift = span(math.MinInt, n) }),
			badGun(func(g *gun.Gun) { g.Shift = span(n, math.MaxInt) }))
	}
	return l
}

func oddLists() [][]float32 {
	l := [][]float32{{0}, {minus0}, samples(64, 32), make([]float32, 64), slices.Repeat([]float32{1024}, 64), slices.Repeat([]float32{-1024}, 1024), make([]float32, 100000)}
	for _, x := range badLists() {
		l = append(l, x.l)
	}
	return l
}

func oddNames() [][]string {
	l := [][]string{nil, {}, {"a"}, {"b", "a"}, {""}, {"\x00"}, make([]string, 100000), slices.Repeat([]string{"a"}, 100000)}
	for _, x := range badCalls() {
		l = append(l, x.l)
	}
	return l
}

func oddRules() [][]gun.Rule {
	l := [][]gun.Rule{nil, {}, {rule("down", 1, 32), rule("starboard", 2, 64)}, slices.Repeat([]gun.Rule{rule("port", 0, 1)}, 12), make([]gun.Rule, 100000)}
	for _, x := range badRules() {
		l = append(l, x.l)
	}
	return l
}

func oddTimings() [][]gun.Timing {
	l := [][]gun.Timing{{timing("a", 0), timing("b", 100000)}, {timing("b", 16), timing("a", 3)}, make([]gun.Timing, 100000)}
	for _, x := range badTimings() {
		l = append(l, x.l)
	}
	return l
}

func oddStarts() [][][]string {
	return [][][]string{nil, {}, {nil}, {{}}, {{"b"}, {"a"}}, {{"a", "b"}}, oddNames(), make([][]string, 100000), slices.Repeat([][]string{{"a"}}, 100000)}
}

func oddTexts() []string {
	return []string{"", "\n", " ", "\x00", "\xff\xfe", "gun", "gun \n", pairText, pairText + pairText, strings.Repeat("\n", 4096), strings.Repeat(" ", 4096), "gun " + strings.Repeat("x ", 2000), strings.Repeat("gun a 1 0 0 0 0 0\n", 220), "gun a -999999999 999999999 999999999 -999999999 999999999 0\n", strings.Repeat("x", 1000000)}
}

// P1: no function panics, and together with an error every other result is its zero value.
func TestOddArguments(t *testing.T) {
	words := append(slices.Clone(headings), noHeadings...)
	shifts := [][]int{nil, {}, {0}, {0, 0}, {1, 0}, numbers, {math.MinInt, math.MaxInt}, make([]int, 8), slices.Repeat([]int{4}, 8), make([]int, 100000)}
	widths := []int{math.MinInt, 0, 1, 64, 65, math.MaxInt}
	combine(t, gun.CheckString, oddStrings())
	combine(t, gun.Volume, oddStrings())
	combine(t, gun.Centre, oddStrings())
	combine(t, gun.Period, numbers, numbers)
	combine(t, gun.Bubble, numbers, numbers, numbers)
	combine(t, gun.Arrival, oddStrings(), numbers, words)
	combine(t, gun.Signature, oddStrings(), shifts, words[3:7], widths)
	combine(t, gun.Enclose, oddStrings(), words, widths)
	combine(t, gun.Outside, oddStrings(), words[3:7], oddLists())
	combine(t, gun.Explain, oddStrings(), words[3:7], oddLists())
	combine(t, gun.Bands, oddLists())
	combine(t, gun.Without, oddStrings(), oddNames())
	combine(t, gun.CheckRules, oddRules())
	combine(t, gun.Refused, oddStrings(), oddRules(), oddNames(), widths[1:4])
	combine(t, gun.Largest, oddStrings(), oddRules(), widths)
	combine(t, gun.Misfires, oddStrings(), oddTimings(), numbers)
	combine(t, gun.Retimed, oddStrings(), oddTimings())
	few := []int{math.MinInt, 0, 1, 256, 100000, math.MaxInt}
	for _, n := range few {
		for _, m := range few {
			combine(t, gun.Ticks, []gun.Line{along(n, m, 1, 1, 1, 1), along(0, n, m, 1, 1, 1), along(0, 0, n, m, 1, 1), along(0, 0, 8, n, m, 1), along(0, 0, 8, 2, n, m), along(n, n, n, n, m, m), along(m, m, m, 256, n, 1000)})
		}
	}
	combine(t, gun.SoftStart, oddStrings())
	combine(t, gun.CheckStart, oddStrings(), oddStarts())
	combine(t, gun.Print, oddStrings())
	combine(t, gun.Parse, oddTexts())
}

// combine calls a function with all combinations of the elements of some lists.
func combine(t *testing.T, f any, lists ...any) {
	t.Helper()
	v := reflect.ValueOf(f)
	args := make([]reflect.Value, len(lists))
	var choose func(i int)
	choose = func(i int) {
		if i == len(lists) {
			zeroBeside(t, v.Call(args))
			return
		}
		l := reflect.ValueOf(lists[i])
		for j := range l.Len() {
			args[i] = l.Index(j)
			choose(i + 1)
		}
	}
	choose(0)
}

// zeroBeside checks that all results beside an error are zero, but for the index of Parse.
func zeroBeside(t *testing.T, out []reflect.Value) {
	t.Helper()
	last := len(out) - 1
	if e, is := out[last].Interface().(api.Errno); !is || e == api.OK {
		return
	}
	for i, x := range out[:last] {
		index := i == 1 && x.Kind() == reflect.Int
		if empty := reflect.ValueOf(plain(x.Interface())); !index && !empty.IsZero() {
			t.Errorf("a result beside the error %v is %v", out[last], x)
		}
	}
}

// The rule 'Memory': strings are not changed, and what is made of them shares no memory with them.
func TestMemoryOfStrings(t *testing.T) {
	times := []gun.Timing{timing("a", 0), timing("b", 1)}
	for i, f := range []func(s gun.String) (gun.String, api.Errno){
		func(s gun.String) (gun.String, api.Errno) { return gun.Without(s, nil) },
		func(s gun.String) (gun.String, api.Errno) { return gun.Without(s, []string{"a"}) },
		func(s gun.String) (gun.String, api.Errno) { return gun.Without(s, []string{"b"}) },
		func(s gun.String) (gun.String, api.Errno) { return gun.Retimed(s, times) },
	} {
		s := pair()
		s.Guns = slices.Grow(s.Guns, 3)
		m, e := f(s)
		ok(t, "a string", e)
		same(t, "the argument", []any{i, s}, []any{i, pair()})
		want := clone(m)
		for j := range m.Guns {
			m.Guns[j] = gun.Gun{Name: "changed"}
		}
		_ = append(m.Guns, gun.Gun{Name: "more"})
		same(t, "the argument when the result is changed", []any{i, s}, []any{i, pair()})
		for _, g := range s.Guns[:cap(s.Guns)] {
			same(t, "the place behind the guns", g.Name == "more", false)
		}
		again, e := f(s)
		ok(t, "a string again", e)
		same(t, "the result again", again, want)
		clear(s.Guns)
		same(t, "the result when the argument is changed", again, want)
	}
}

// The rule 'Memory' for all other arguments and results.
func TestMemoryOfOthers(t *testing.T) {
	s, shifts, dropped := free(), []int{0, 1, 2, 3, 4, 3, 2, 1}, []string{"h", "a"}
	rules := []gun.Rule{rule("aft", 2, 3), rule("down", 0, 4)}
	l, e := gun.Signature(s, shifts, "port", 64)
	ok(t, "Signature", e)
	kept := slices.Clone(l)
	k, e := gun.Explain(s, "port", l)
	ok(t, "Explain", e)
	_, _, e = gun.Outside(s, "port", l)
	ok(t, "Outside", e)
	_, e = gun.Bands(l)
	ok(t, "Bands", e)
	same(t, "the samples", l, kept)
	clear(k)
	_, e = gun.Refused(s, rules, dropped, 64)
	ok(t, "Refused", e)
	largest, e := gun.Largest(s, nil, 64)
	ok(t, "Largest", e)
	clear(largest)
	start, e := gun.SoftStart(s)
	ok(t, "SoftStart", e)
	same(t, "CheckStart", gun.CheckStart(s, start), api.OK)
	same(t, "the string", s, free())
	same(t, "the shifts", shifts, []int{0, 1, 2, 3, 4, 3, 2, 1})
	same(t, "the drop-outs", dropped, []string{"h", "a"})
	same(t, "the rules", slices.Equal(rules, []gun.Rule{rule("aft", 2, 3), rule("down", 0, 4)}), true)
	// the steps of a soft start share no memory with each other
	want, e := gun.SoftStart(s)
	ok(t, "SoftStart", e)
	for i := range start {
		_ = append(start[i], "more")
	}
	same(t, "the steps when one of them grows", start, want)
}

// The rule 'Numbers': no result is -0.
func TestMinusZero(t *testing.T) {
	s := pair()
	for _, d := range headings {
		l, e := gun.Signature(s, []int{1, 0}, d, 64)
		ok(t, "Signature", e)
		b, e := gun.Bubble(16, 1, 64)
		ok(t, "Bubble", e)
		for _, x := range slices.Concat(l, b) {
			if x == 0 && math.Signbit(float64(x)) {
				t.Errorf("a sample is -0 in the direction %s", d)
			}
		}
		for i := range l {
			if l[i] == 0 {
				l[i] = minus0
			}
		}
		_, is, e := gun.Outside(s, d, l)
		ok(t, "Outside", e)
		same(t, "Outside of -0", is, false)
		k, e := gun.Explain(s, d, l)
		ok(t, "Explain", e)
		same(t, "Explain of -0", k, []int{1, 0})
	}
}

// The rule 'Determinism': the same call has the same result again.
func TestSameAgain(t *testing.T) {
	r := random(21)
	for range 30 {
		s, rules, width := r.string(8, 5, 200), r.rules(6), 1+r.below(64)
		signature, e := gun.Signature(s, r.shifts(s), "aft", width)
		ok(t, "Signature", e)
		for _, f := range []func() (any, api.Errno){
			func() (any, api.Errno) { l, e := gun.Enclose(s, "aft", width); return l, e },
			func() (any, api.Errno) { l, e := gun.Explain(s, "aft", signature); return l, e },
			func() (any, api.Errno) { l, e := gun.Largest(s, rules, width); return l, e },
			func() (any, api.Errno) { l, e := gun.SoftStart(s); return l, e },
		} {
			x, e1 := f()
			y, e2 := f()
			same(t, "a result again", y, x)
			same(t, "an error again", e2, e1)
		}
	}
}
