package gun_test

import (
	"math"
	"reflect"
	"slices"
	"strings"
	"testing"

	"moveout/api"
	"moveout/gun"
)

var (
	nan     = float32(math.NaN())
	endless = float32(math.Inf(1))
	minus0  = float32(math.Copysign(0, -1))
)

// headings are all directions.
var headings = []string{"down", "fore", "aft", "port", "starboard"}

// noHeadings are words that are no directions.
var noHeadings = []string{"", "up", "Down", "down ", "d", "downs", "star", "star board", "port\n", "PORT"}

// same compares a result with the expected one; nil and empty lists are equal.
func same(t *testing.T, what string, got, want any) {
	t.Helper()
	if !reflect.DeepEqual(plain(got), plain(want)) {
		t.Errorf("%s: got %v, want %v", what, got, want)
	}
}

// plain returns a value with nil in place of empty lists, as far as the tests compare such values.
func plain(x any) any {
	switch v := x.(type) {
	case []any:
		out := make([]any, len(v))
		for i := range v {
			out[i] = plain(v[i])
		}
		return out
	case gun.String:
		return clone(v)
	case [][]string:
		return append([][]string(nil), v...)
	case []string:
		return append([]string(nil), v...)
	case []float32:
		return append([]float32(nil), v...)
	case []api.Interval:
		return append([]api.Interval(nil), v...)
	case []int:
		return append([]int(nil), v...)
	}
	return x
}

// ok fails the test if there is an error.
func ok(t *testing.T, what string, e api.Errno) {
	t.Helper()
	if e != api.OK {
		t.Fatalf("%s: got the error %d", what, e)
	}
}

// fails checks that a result has an error, and is the zero value.
func fails(t *testing.T, what string, got any, e, want api.Errno) {
	t.Helper()
	if e != want {
		t.Errorf("%s: got the error %d, want %d", what, e, want)
	}
	if v := reflect.ValueOf(plain(got)); e != api.OK && !v.IsZero() {
		t.Errorf("%s: got %v beside the error %d", what, got, e)
	}
}

// clone returns a string that shares nothing with another one; an empty list is nil.
func clone(s gun.String) gun.String {
	return gun.String{Guns: append([]gun.Gun(nil), s.Guns...)}
}

func span(low, high int) api.Interval { return api.Interval{Low: low, High: high} }

func at(x, y int) api.Point { return api.Point{X: x, Y: y} }

// pair returns the string S of the chapter.
func pair() gun.String {
	return gun.String{Guns: []gun.Gun{{Name: "a", Volume: 16, Shift: span(0, 1)}, {Name: "b", Volume: 8, At: at(-30, 0), Fires: 1}}}
}

// changed returns the string S with a change.
func changed(change func(s *gun.String)) gun.String {
	s := pair()
	change(&s)
	return s
}

// ofVolumes returns a string of guns with some volumes; their names are a, b, c ..
func ofVolumes(l ...int) gun.String {
	var s gun.String
	for i, v := range l {
		s.Guns = append(s.Guns, gun.Gun{Name: string(rune('a' + i)), Volume: v})
	}
	return s
}

// free returns eight guns with even volumes, which may have all shifts.
func free() gun.String {
	s := ofVolumes(2, 8, 20, 64, 64, 20, 8, 2)
	for i := range s.Guns {
		s.Guns[i].Shift = span(0, 4)
		s.Guns[i].Fires = i % 3
	}
	return s
}

// samples returns the samples with some integers.
func samples(l ...int) []float32 {
	var out []float32
	for _, n := range l {
		out = append(out, float32(n)/16)
	}
	return out
}

// integers returns the integers of samples.
func integers(l []float32) []int {
	var out []int
	for _, x := range l {
		out = append(out, int(16*x))
	}
	return out
}

// badString is a string that is none, with its error.
type badString struct {
	what string
	s    gun.String
	e    api.Errno
}

// badGun returns the string S with another second gun.
func badGun(change func(g *gun.Gun)) gun.String {
	return changed(func(s *gun.String) { change(&s.Guns[1]) })
}

// badStrings returns strings with each error of CheckString, and with two where their order matters.
func badStrings() []badString {
	return []badString{
		{"nothing", gun.String{}, api.ErrEmpty},
		{"an empty list", gun.String{Guns: []gun.Gun{}}, api.ErrEmpty},
		{"nine guns", ofVolumes(1, 1, 1, 1, 1, 1, 1, 1, 1), api.ErrMany},
		{"nine guns before a bad name", gun.String{Guns: make([]gun.Gun, 9)}, api.ErrMany},
		{"no name", badGun(func(g *gun.Gun) { g.Name = "" }), api.ErrName},
		{"a bad name", badGun(func(g *gun.Gun) { g.Name = "b-1" }), api.ErrName},
		{"a name that begins with a digit", badGun(func(g *gun.Gun) { g.Name = "1b" }), api.ErrName},
		{"a long name", badGun(func(g *gun.Gun) { g.Name = strings.Repeat("b", 25) }), api.ErrName},
		{"a bad name twice", changed(func(s *gun.String) { s.Guns[0].Name, s.Guns[1].Name = "_", "_" }), api.ErrName},
		{"a bad name before the volume", badGun(func(g *gun.Gun) { g.Name, g.Volume = "_", 0 }), api.ErrName},
		{"a name twice", badGun(func(g *gun.Gun) { g.Name = "a" }), api.ErrTwice},
		{"a name twice, not one after the other", changed(func(s *gun.String) { s.Guns = append(s.Guns, s.Guns[0]) }), api.ErrTwice},
		{"a name twice before the volume", badGun(func(g *gun.Gun) { g.Name, g.Volume = "a", 65 }), api.ErrTwice},
		{"a name twice before the shifts", badGun(func(g *gun.Gun) { g.Name, g.Shift = "a", span(1, 0) }), api.ErrTwice},
		{"the volume 0", badGun(func(g *gun.Gun) { g.Volume = 0 }), api.ErrRange},
		{"a volume below 0", badGun(func(g *gun.Gun) { g.Volume = -8 }), api.ErrRange},
		{"the volume 65", badGun(func(g *gun.Gun) { g.Volume = 65 }), api.ErrRange},
		{"the least volume of all", badGun(func(g *gun.Gun) { g.Volume = math.MinInt }), api.ErrRange},
		{"the greatest volume of all", badGun(func(g *gun.Gun) { g.Volume = math.MaxInt }), api.ErrRange},
		{"a low X", badGun(func(g *gun.Gun) { g.At.X = -1001 }), api.ErrRange},
		{"a high X", badGun(func(g *gun.Gun) { g.At.X = 1001 }), api.ErrRange},
		{"a low Y", badGun(func(g *gun.Gun) { g.At.Y = -1001 }), api.ErrRange},
		{"a high Y", badGun(func(g *gun.Gun) { g.At.Y = 1001 }), api.ErrRange},
		{"the least place of all", badGun(func(g *gun.Gun) { g.At = at(math.MinInt, math.MinInt) }), api.ErrRange},
		{"a tick below 0", badGun(func(g *gun.Gun) { g.Fires = -1 }), api.ErrRange},
		{"the tick 17", badGun(func(g *gun.Gun) { g.Fires = 17 }), api.ErrRange},
		{"a Low below 0", badGun(func(g *gun.Gun) { g.Shift = span(-1, 0) }), api.ErrRange},
		{"a Low of 5", badGun(func(g *gun.Gun) { g.Shift = span(5, 5) }), api.ErrRange},
		{"a Low of 5 above its High", badGun(func(g *gun.Gun) { g.Shift = span(5, 4) }), api.ErrRange},
		{"a High of 5", badGun(func(g *gun.Gun) { g.Shift = span(0, 5) }), api.ErrRange},
		{"a High below 0", badGun(func(g *gun.Gun) { g.Shift = span(0, -1) }), api.ErrRange},
		{"a Low above its High", badGun(func(g *gun.Gun) { g.Shift = span(1, 0) }), api.ErrOrder},
		{"4 above 3", badGun(func(g *gun.Gun) { g.Shift = span(4, 3) }), api.ErrOrder},
		{"a tick before a wrong order", badGun(func(g *gun.Gun) { g.Fires, g.Shift = 17, span(1, 0) }), api.ErrRange},
		{"an order before the next name", changed(func(s *gun.String) { s.Guns[0].Shift, s.Guns[1].Name = span(1, 0), "" }), api.ErrOrder},
		{"a volume before the next name", changed(func(s *gun.String) { s.Guns[0].Volume, s.Guns[1].Name = 0, "a" }), api.ErrRange},
		{"a name twice before the next volume", changed(func(s *gun.String) {
			s.Guns[1].Name = "a"
			s.Guns = append(s.Guns, gun.Gun{Name: "c"})
		}), api.ErrTwice},
	}
}

// badNames is a list of names that are not different ones of the string S, with its error.
type badNames struct {
	l []string
	e api.Errno
}

// badCalls returns lists with each error of names that are called one after the other, and with two where their order matters.
func badCalls() []badNames {
	return []badNames{
		{[]string{"c"}, api.ErrUnknown}, {[]string{""}, api.ErrUnknown}, {[]string{"a", "A"}, api.ErrUnknown}, {[]string{"a", "b", "c"}, api.ErrUnknown}, {[]string{"c", "c"}, api.ErrUnknown}, {[]string{"a", "c", "a"}, api.ErrUnknown}, {[]string{"a "}, api.ErrUnknown},
		{[]string{"a", "a"}, api.ErrTwice}, {[]string{"b", "a", "b"}, api.ErrTwice}, {[]string{"b", "b", "c"}, api.ErrTwice}, {[]string{"a", "b", "a", "b", "c"}, api.ErrTwice},
	}
}

// badList is a list of samples that no string explains, with its error.
type badList struct {
	l []float32
	e api.Errno
}

// badLists returns lists with each error of samples, and with two where their order matters.
func badLists() []badList {
	return []badList{
		{nil, api.ErrEmpty}, {[]float32{}, api.ErrEmpty},
		{make([]float32, 65), api.ErrMany}, {slices.Repeat([]float32{nan}, 65), api.ErrMany}, {make([]float32, 2000), api.ErrMany},
		{[]float32{nan}, api.ErrForm}, {[]float32{endless}, api.ErrForm}, {[]float32{4, -endless, 1}, api.ErrForm},
		{[]float32{0.03125}, api.ErrRange}, {[]float32{4, 2, 1024.0625}, api.ErrRange}, {[]float32{-1025}, api.ErrRange}, {[]float32{math.MaxFloat32}, api.ErrRange}, {[]float32{math.SmallestNonzeroFloat32}, api.ErrRange},
		{[]float32{nan, 2000}, api.ErrForm}, {[]float32{2000, nan}, api.ErrRange},
	}
}

// badWidths are widths that are none.
var badWidths = []int{0, -1, 65, math.MinInt, math.MaxInt}

// random is a sequence of numbers that is the same in each run.
type random uint64

// below returns the next number from 0 to n - 1.
func (r *random) below(n int) int {
	*r = *r*6364136223846793005 + 1442695040888963407
	return int(uint64(*r) >> 33 % uint64(n))
}

// integer returns the next number from -most to most.
func (r *random) integer(most int) int {
	return r.below(2*most+1) - most
}

// interval returns an interval within 0 to MaxShift that has at most so many integers.
func (r *random) interval(most int) api.Interval {
	low := r.below(gun.MaxShift + 1)
	return span(low, min(low+r.below(most), gun.MaxShift))
}

// string returns a string of at most so many guns, each with at most so many shifts, within a side.
func (r *random) string(guns, shifts, side int) gun.String {
	s := ofVolumes(make([]int, 1+r.below(guns))...)
	for i := range s.Guns {
		g := &s.Guns[i]
		g.Volume = 1 + r.below(64)
		if r.below(3) == 0 {
			// so that guns with the same volume are not rare
			g.Volume = 8 << r.below(3)
		}
		g.At = at(r.integer(side), r.integer(side))
		g.Fires = r.below(7)
		g.Shift = r.interval(shifts)
	}
	return s
}

// shifts returns permitted shifts of a string.
func (r *random) shifts(s gun.String) []int {
	var l []int
	for _, g := range s.Guns {
		l = append(l, g.Shift.Low+r.below(g.Shift.High-g.Shift.Low+1))
	}
	return l
}

// rules returns some rules.
func (r *random) rules(most int) []gun.Rule {
	var l []gun.Rule
	for range r.below(most + 1) {
		l = append(l, gun.Rule{Direction: headings[r.below(5)], Band: r.below(3), Least: r.below(65)})
	}
	return l
}

// names returns the names of some guns, in any order.
func (r *random) names(s gun.String) []string {
	var l []string
	for _, g := range s.Guns {
		if r.below(2) == 0 {
			l = slices.Insert(l, r.below(len(l)+1), g.Name)
		}
	}
	return l
}
