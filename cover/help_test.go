package cover_test

import (
	"math"
	"reflect"
	"slices"
	"strings"
	"testing"

	"moveout/api"
	"moveout/cover"
)

// same compares a result with the expected one; nil and empty lists are equal.
func same(t *testing.T, what string, got, want any) {
	t.Helper()
	if !reflect.DeepEqual(plain(got), plain(want)) {
		t.Errorf("%s: got %v, want %v", what, got, want)
	}
}

// plain returns a value with nil in place of empty lists, as far as the tests compare such values.
func plain(x any) any {
	switch v := x.(type) {
	case []any:
		out := make([]any, len(v))
		for i := range v {
			out[i] = plain(v[i])
		}
		return out
	case cover.Line:
		return clone(v)
	case []cover.Line:
		var l []cover.Line
		for _, line := range v {
			l = append(l, clone(line))
		}
		return l
	case []cover.Place:
		return append([]cover.Place(nil), v...)
	case []int:
		return append([]int(nil), v...)
	case [][2]int:
		return append([][2]int(nil), v...)
	}
	return x
}

// ok fails the test if there is an error.
func ok(t *testing.T, what string, e api.Errno) {
	t.Helper()
	if e != api.OK {
		t.Fatalf("%s: got the error %d", what, e)
	}
}

// fails checks that a result has an error, and is the zero value.
func fails(t *testing.T, what string, got any, e, want api.Errno) {
	t.Helper()
	if e != want {
		t.Errorf("%s: got the error %d, want %d", what, e, want)
	}
	if v := reflect.ValueOf(plain(got)); e != api.OK && !v.IsZero() {
		t.Errorf("%s: got %v beside the error %d", what, got, e)
	}
}

// clone returns a line that shares nothing with another one; an empty list is nil.
func clone(l cover.Line) cover.Line {
	l.Refused = append([]int(nil), l.Refused...)
	return l
}

func at(x, y int) api.Point { return api.Point{X: x, Y: y} }

func between(source, receiver api.Point) cover.Place {
	return cover.Place{Source: source, Receiver: receiver}
}

// small returns the grid G of the chapter, classes its classes.
func small() cover.Grid { return cover.Grid{Width: 100, Height: 100, Columns: 2, Rows: 1} }

func classes() []int { return []int{1000, 4000} }

// first returns the line a of the chapter.
func first() cover.Line {
	return cover.Line{Name: "a", Start: at(60, 50), Step: at(100, 0), Shots: 2, Near: at(-20, 0), Spacing: at(-40, 0), Channels: 2}
}

// changed returns the line a with a change.
func changed(change func(l *cover.Line)) cover.Line {
	l := first()
	change(&l)
	return l
}

// refusing returns the line a with refused shots.
func refusing(refused ...int) cover.Line {
	return changed(func(l *cover.Line) { l.Refused = refused })
}

// named returns the line a with another name.
func named(name string) cover.Line {
	return changed(func(l *cover.Line) { l.Name = name })
}

// part returns a part of the line a with another name.
func part(name string, from, shots int) cover.Line {
	return changed(func(l *cover.Line) { l.Name, l.Start.X, l.Shots = name, 60+100*from, shots })
}

// point returns a line of one shot whose places all lie at one point; it has an offset of 0.
func point(name string, p api.Point, count int) cover.Line {
	return cover.Line{Name: name, Start: p, Shots: 1, Channels: count}
}

// fleet returns so many lines with different names.
func fleet(count int) []cover.Line {
	var l []cover.Line
	for i := range count {
		l = append(l, named("l"+strings.Repeat("_", i%20)+string(rune('a'+i/20))))
	}
	return l
}

// offers returns the offers b, c and d of the chapter.
func offers() []cover.Offer {
	return []cover.Offer{{Line: part("b", 0, 1), Minutes: 30}, {Line: part("c", 1, 1), Minutes: 40}, {Line: part("d", 0, 2), Minutes: 65}}
}

// auction returns so many offers with different names.
func auction(count int) []cover.Offer {
	var l []cover.Offer
	for _, line := range fleet(count) {
		l = append(l, cover.Offer{Line: line, Minutes: 1})
	}
	return l
}

// badGrids returns grids that are none; each has the error ErrRange.
func badGrids() []cover.Grid {
	var l []cover.Grid
	for _, n := range []int{math.MinInt, -100001, 100001, math.MaxInt} {
		x, y := small(), small()
		x.Origin.X, y.Origin.Y = n, n
		l = append(l, x, y)
	}
	for _, n := range []int{math.MinInt, -1, 0, 10001, math.MaxInt} {
		x, y := small(), small()
		x.Width, y.Height = n, n
		l = append(l, x, y)
	}
	for _, n := range []int{math.MinInt, -1, 0, 17, math.MaxInt} {
		x, y := small(), small()
		x.Columns, y.Rows = n, n
		l = append(l, x, y)
	}
	return append(l, cover.Grid{})
}

// badPlaces returns places that are none; each has the error ErrRange.
func badPlaces() []cover.Place {
	var l []cover.Place
	for _, n := range []int{math.MinInt, -100001, 100001, math.MaxInt} {
		l = append(l, between(at(n, 0), at(0, 0)), between(at(0, n), at(0, 0)), between(at(0, 0), at(n, 0)), between(at(0, 0), at(0, n)), between(at(n, n), at(n, n)))
	}
	return l
}

// badClass is classes that are none, with their error.
type badClass struct {
	l []int
	e api.Errno
}

// badClasses returns classes with each error, and with two where their order matters.
func badClasses() []badClass {
	return []badClass{
		{nil, api.ErrEmpty}, {[]int{}, api.ErrEmpty},
		{[]int{1, 2, 3, 4, 5, 6, 7, 8, 9}, api.ErrMany}, {make([]int, 9), api.ErrMany}, {make([]int, 100000), api.ErrMany},
		{[]int{0}, api.ErrRange}, {[]int{-1}, api.ErrRange}, {[]int{math.MinInt}, api.ErrRange}, {[]int{1<<37 + 1}, api.ErrRange}, {[]int{5, math.MaxInt}, api.ErrRange}, {[]int{0, 0}, api.ErrRange}, {[]int{5, 0}, api.ErrRange},
		{[]int{5, 5}, api.ErrOrder}, {[]int{5, 4}, api.ErrOrder}, {[]int{1, 2, 3, 2, 0}, api.ErrOrder}, {[]int{1, 2, 0, 2}, api.ErrRange},
	}
}

// badLine is a line that is none, with its error.
type badLine struct {
	what string
	l    cover.Line
	e    api.Errno
}

// badNumbers returns lines with one integer of any place out of its range.
func badNumbers() []badLine {
	var l []badLine
	for _, x := range []struct {
		what      string
		low, high int
		set       func(l *cover.Line, n int)
	}{
		{"the X of the start", -100000, 100000, func(l *cover.Line, n int) { l.Start.X = n }},
		{"the Y of the start", -100000, 100000, func(l *cover.Line, n int) { l.Start.Y = n }},
		{"the X of the step", -10000, 10000, func(l *cover.Line, n int) { l.Step.X = n }},
		{"the Y of the step", -10000, 10000, func(l *cover.Line, n int) { l.Step.Y = n }},
		{"the shots", 1, 64, func(l *cover.Line, n int) { l.Shots = n }},
		{"the X of Near", -10000, 10000, func(l *cover.Line, n int) { l.Near.X = n }},
		{"the Y of Near", -10000, 10000, func(l *cover.Line, n int) { l.Near.Y = n }},
		{"the X of the spacing", -10000, 10000, func(l *cover.Line, n int) { l.Spacing.X = n }},
		{"the Y of the spacing", -10000, 10000, func(l *cover.Line, n int) { l.Spacing.Y = n }},
		{"the channels", 1, 16, func(l *cover.Line, n int) { l.Channels = n }},
	} {
		for _, n := range []int{math.MinInt, x.low - 1, x.high + 1, math.MaxInt} {
			l = append(l, badLine{x.what, changed(func(l *cover.Line) { x.set(l, n) }), api.ErrRange})
			// before what is wrong with refused shots
			l = append(l, badLine{x.what + " before refused shots", changed(func(l *cover.Line) { x.set(l, n); l.Refused = []int{-1} }), api.ErrRange})
			// behind the name
			l = append(l, badLine{"a name before " + x.what, changed(func(l *cover.Line) { x.set(l, n); l.Name = "" }), api.ErrName})
		}
	}
	return l
}

// badLines returns lines with each error of CheckLine, and with two where their order matters.
func badLines() []badLine {
	far := func(change func(l *cover.Line)) cover.Line {
		return changed(func(l *cover.Line) { l.Shots, l.Refused = 64, []int{63}; change(l) })
	}
	return append(badNumbers(), []badLine{
		{"nothing", cover.Line{}, api.ErrName},
		{"no name", named(""), api.ErrName},
		{"a bad name", named("a-1"), api.ErrName},
		{"a name that begins with a digit", named("1a"), api.ErrName},
		{"a long name", named(strings.Repeat("a", 25)), api.ErrName},
		{"a name with a blank", named("a b"), api.ErrName},
		{"a refused shot below 0", refusing(-1), api.ErrUnknown},
		{"a refused shot behind the last one", refusing(2), api.ErrUnknown},
		{"the least number as a refused shot", refusing(math.MinInt), api.ErrUnknown},
		{"the greatest number as a refused shot", refusing(0, math.MaxInt), api.ErrUnknown},
		{"a shot that is refused twice", refusing(0, 0), api.ErrOrder},
		{"refused shots that go down", refusing(1, 0), api.ErrOrder},
		{"an order before no such shot", refusing(1, 0, 2), api.ErrOrder},
		{"no such shot before an order", refusing(1, 2, 0), api.ErrUnknown},
		{"no such shot and no order", refusing(1, -1), api.ErrUnknown},
		{"no such shot before a place too far", changed(func(l *cover.Line) { l.Start.X, l.Refused = 99950, []int{2} }), api.ErrUnknown},
		{"no order before a place too far", changed(func(l *cover.Line) { l.Start.X, l.Refused = 99950, []int{0, 0} }), api.ErrOrder},
		{"a source too far", changed(func(l *cover.Line) { l.Start.X = 99901 }), api.ErrLarge},
		{"a source too far along Y", changed(func(l *cover.Line) { l.Start.Y, l.Step = -99901, at(0, -100) }), api.ErrLarge},
		{"a source too far in the other direction", changed(func(l *cover.Line) { l.Start.X, l.Step, l.Near, l.Spacing = -99901, at(-100, 0), at(9, 0), at(9, 0) }), api.ErrLarge},
		{"a refused source too far", far(func(l *cover.Line) { l.Start, l.Step, l.Near = at(0, 37001), at(0, 1000), at(0, -50) }), api.ErrLarge},
		{"a first receiver too far", changed(func(l *cover.Line) { l.Start, l.Spacing = at(-99981, 0), at(40, 0) }), api.ErrLarge},
		{"a first receiver too far along Y", changed(func(l *cover.Line) { l.Start.Y, l.Near, l.Spacing = 99991, at(0, 10), at(0, -10) }), api.ErrLarge},
		{"a last receiver too far", changed(func(l *cover.Line) { l.Start = at(-99941, 0) }), api.ErrLarge},
		{"a last receiver too far along Y", changed(func(l *cover.Line) { l.Start.Y, l.Spacing = 99961, at(0, 40) }), api.ErrLarge},
		{"a last receiver of a refused shot too far", far(func(l *cover.Line) { l.Start, l.Step, l.Spacing = at(0, 36961), at(0, 1000), at(0, 40) }), api.ErrLarge},
		{"a line that is far too long", far(func(l *cover.Line) { l.Step = at(10000, 10000) }), api.ErrLarge},
	}...)
}

// badList is lines that are none, with their error.
type badList struct {
	what string
	l    []cover.Line
	e    api.Errno
}

// badLists returns lines with each error of CheckLines, and with two where their order matters.
func badLists() []badList {
	l := []badList{
		{"33 lines", fleet(33), api.ErrMany},
		{"33 lines before a bad name", make([]cover.Line, 33), api.ErrMany},
		{"a name twice", []cover.Line{first(), first()}, api.ErrTwice},
		{"a name twice, not one after the other", []cover.Line{first(), named("b"), first()}, api.ErrTwice},
		{"the last one of 32 twice", append(fleet(31), fleet(1)...), api.ErrTwice},
		{"a bad name twice", []cover.Line{first(), named("_"), named("_")}, api.ErrName},
		{"refused shots before a name twice", []cover.Line{first(), refusing(5)}, api.ErrUnknown},
		{"a place too far before a name twice", []cover.Line{first(), changed(func(l *cover.Line) { l.Start.X = 99950 })}, api.ErrLarge},
		{"a name twice before the next range", []cover.Line{first(), first(), changed(func(l *cover.Line) { l.Shots = 0 })}, api.ErrTwice},
		{"a range before the next name", []cover.Line{changed(func(l *cover.Line) { l.Shots = 0 }), named("")}, api.ErrRange},
	}
	for _, x := range badLines() {
		l = append(l, badList{x.what, []cover.Line{x.l}, x.e}, badList{x.what + " behind a line", []cover.Line{named("z"), x.l}, x.e})
	}
	return l
}

// badOffer is offers that are none, with their error.
type badOffer struct {
	what string
	l    []cover.Offer
	e    api.Errno
}

// badOffers returns offers with each error, and with two where their order matters.
func badOffers() []badOffer {
	b := func(minutes int) cover.Offer { return cover.Offer{Line: named("b"), Minutes: minutes} }
	l := []badOffer{
		{"13 offers", auction(13), api.ErrMany},
		{"13 offers before a bad name", make([]cover.Offer, 13), api.ErrMany},
		{"a name twice", []cover.Offer{b(1), b(1)}, api.ErrTwice},
		{"a name twice, not one after the other", append(offers(), b(1)), api.ErrTwice},
		{"a name twice before the minutes", []cover.Offer{b(1), b(0)}, api.ErrTwice},
		{"minutes before the next name", []cover.Offer{b(0), b(1)}, api.ErrRange},
		{"a name before the minutes", []cover.Offer{{Line: named(""), Minutes: 0}}, api.ErrName},
	}
	for _, n := range []int{math.MinInt, -1, 0, 10001, math.MaxInt} {
		l = append(l, badOffer{"minutes", []cover.Offer{b(n)}, api.ErrRange}, badOffer{"later minutes", append(offers()[1:], b(n)), api.ErrRange})
	}
	for _, x := range badLines() {
		l = append(l, badOffer{x.what, append(offers()[1:], cover.Offer{Line: x.l, Minutes: 1}), x.e}, badOffer{x.what + " before the minutes", []cover.Offer{{Line: x.l}}, x.e})
	}
	return l
}

// badWants are wanted folds that are none.
var badWants = []int{math.MinInt, -1, 0, 1001, math.MaxInt}

// random is a sequence of numbers that is the same in each run.
type random uint64

// below returns the next number from 0 to n - 1.
func (r *random) below(n int) int {
	*r = *r*6364136223846793005 + 1442695040888963407
	return int(uint64(*r) >> 33 % uint64(n))
}

// integer returns the next number from -most to most.
func (r *random) integer(most int) int {
	return r.below(2*most+1) - most
}

func (r *random) point(most int) api.Point {
	x := r.integer(most)
	return at(x, r.integer(most))
}

// grid returns a grid near 0, 0.
func (r *random) grid() cover.Grid {
	g := cover.Grid{Origin: r.point(60), Columns: 1 + r.below(4), Rows: 1 + r.below(4)}
	g.Origin.X -= 100
	g.Origin.Y -= 100
	g.Width, g.Height = 1+r.below(120), 1+r.below(120)
	return g
}

// classes returns one to four classes.
func (r *random) classes() []int {
	l := []int{1 + r.below(8000)}
	for range r.below(4) {
		l = append(l, l[len(l)-1]+1+r.below(8000))
	}
	return l
}

// line returns a line near 0, 0 with a name.
func (r *random) line(name string) cover.Line {
	l := cover.Line{Name: name, Start: r.point(120), Step: r.point(50), Shots: 1 + r.below(8), Near: r.point(40), Spacing: r.point(40), Channels: 1 + r.below(4)}
	for shot := range l.Shots {
		if r.below(4) == 0 {
			l.Refused = append(l.Refused, shot)
		}
	}
	return l
}

// lines returns at most so many lines.
func (r *random) lines(most int) []cover.Line {
	var l []cover.Line
	for i := range r.below(most + 1) {
		l = append(l, r.line("l"+string(rune('a'+i))))
	}
	return l
}

// offers returns at most so many offers, of at most so many minutes.
func (r *random) offers(most, minutes int) []cover.Offer {
	var l []cover.Offer
	for _, line := range r.lines(most) {
		l = append(l, cover.Offer{Line: line, Minutes: 1 + r.below(minutes)})
	}
	return l
}

// turns returns the turns of so many lines, of at most so many minutes.
func (r *random) turns(lines, minutes int) [][]int {
	l := make([][]int, lines)
	for i := range l {
		for range lines {
			l[i] = append(l[i], r.below(minutes+1))
		}
	}
	return l
}

// subset returns some of the integers from 0 on before n.
func (r *random) subset(n int) []int {
	return slices.DeleteFunc(upTo(n), func(int) bool { return r.below(2) == 0 })
}

// upTo returns the integers from 0 on before n.
func upTo(n int) []int {
	l := make([]int, n)
	for i := range l {
		l[i] = i
	}
	return l
}
