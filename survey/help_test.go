package survey_test

import (
	"math"
	"reflect"
	"slices"
	"testing"

	"moveout/api"
	"moveout/survey"
)

// same compares a result with the expected one; nil and empty lists are equal.
func same(t *testing.T, what string, got, want any) {
	t.Helper()
	if !reflect.DeepEqual(plain(got), plain(want)) {
		t.Errorf("%s: got %v, want %v", what, got, want)
	}
}

// plain returns a value with nil in place of empty lists, as far as the tests compare such values.
func plain(x any) any {
	if l, is := x.([]any); is {
		out := make([]any, len(l))
		for i := range l {
			out[i] = plain(l[i])
		}
		return out
	}
	if v := reflect.ValueOf(x); v.Kind() == reflect.Slice && v.Len() == 0 {
		return reflect.Zero(v.Type()).Interface()
	}
	return x
}

// ok fails the test if there is an error.
func ok(t *testing.T, what string, e api.Errno) {
	t.Helper()
	if e != api.OK {
		t.Fatalf("%s: got the error %d", what, e)
	}
}

// fails checks an error, and that all results beside it are zero values.
func fails(t *testing.T, what string, e, want api.Errno, results ...any) {
	t.Helper()
	if e != want {
		t.Errorf("%s: got the error %d, want %d", what, e, want)
	}
	for _, got := range results {
		if e != api.OK && !reflect.ValueOf(plain(got)).IsZero() {
			t.Errorf("%s: got %v beside the error %d", what, got, e)
		}
	}
}

// ints returns a list of integers.
func ints(l ...int) []int { return l }

// point returns a point.
func point(x, y int) api.Point { return api.Point{X: x, Y: y} }

// span returns a span.
func span(from, to int) api.Span { return api.Span{From: from, To: to} }

// spans returns spans with their ends.
func spans(l ...int) []api.Span {
	var out []api.Span
	for ends := range slices.Chunk(l, 2) {
		out = append(out, span(ends[0], ends[1]))
	}
	return out
}

// vessel returns the vessel of the chapter.
func vessel() survey.Vessel { return survey.Vessel{Step: point(10, 0), Ticks: 12} }

// anchored returns a vessel that stays at 0, 0 for so many ticks.
func anchored(ticks int) survey.Vessel { return survey.Vessel{Ticks: ticks} }

// watch returns the watch of the chapter.
func watch() survey.Watch { return survey.Watch{Ring: 30, Speed: 5, Loss: 2, Clear: 3, Soft: 2} }

// sighting returns a sighting.
func sighting(tick, x, y int) survey.Sighting {
	return survey.Sighting{Tick: tick, Place: point(x, y)}
}

// seen returns the sighting of the chapter.
func seen() []survey.Sighting { return []survey.Sighting{sighting(2, 40, 0)} }

// fire returns a list of one shot.
func fire(tick, level int) []survey.Fire { return []survey.Fire{{Tick: tick, Level: level}} }

// entry returns an entry.
func entry(from, to int, cause string) survey.Entry {
	return survey.Entry{Span: span(from, to), Cause: cause}
}

// entries returns a list of entries.
func entries(l ...survey.Entry) []survey.Entry { return l }

// day returns the diary of the chapter.
func day() []survey.Entry {
	return entries(entry(0, 8, "animal"), entry(8, 9, "shoot"), entry(9, 10, "weather"), entry(10, 12, "shoot"))
}

// contract returns the contract of the chapter with so many free ticks.
func contract(free int) survey.Contract {
	return survey.Contract{Shoot: 100, Turn: 50, Weather: 20, Animal: 10, Gear: -30, Share: 5, Free: free, Bonus: 500, Penalty: 200}
}

// result returns a result.
func result(line string, fold, want int) survey.Result {
	return survey.Result{Line: line, Fold: fold, Want: want}
}

// two returns the results of the chapter.
func two() []survey.Result { return []survey.Result{result("a", 3, 3), result("b", 2, 3)} }

// many returns so many results with lines of their own.
func many(results int) []survey.Result {
	var l []survey.Result
	for i := range results {
		l = append(l, result("l"+string(rune('a'+i/26))+string(rune('a'+i%26)), i, 30))
	}
	return l
}

// each returns so many entries of one tick, with all causes in turn.
func each(count int) []survey.Entry {
	var l []survey.Entry
	for i := range count {
		l = append(l, entry(i, i+1, survey.Causes()[i%6]))
	}
	return l
}

// outside returns numbers that are not from low to high.
func outside(low, high int) []int {
	return ints(low-1, high+1, math.MinInt, math.MaxInt)
}

// bad is an argument that is none, with its error.
type bad[T any] struct {
	what string
	x    T
	e    api.Errno
}

// badVessels returns vessels with the error of each part.
func badVessels() []bad[survey.Vessel] {
	l := []bad[survey.Vessel]{{"the zero value", survey.Vessel{}, api.ErrRange}}
	add := func(what string, low, high int, set func(v *survey.Vessel, n int)) {
		for _, n := range outside(low, high) {
			v := vessel()
			set(&v, n)
			l = append(l, bad[survey.Vessel]{what, v, api.ErrRange})
		}
	}
	add("the X of a start", -100000, 100000, func(v *survey.Vessel, n int) { v.Start.X = n })
	add("the Y of a start", -100000, 100000, func(v *survey.Vessel, n int) { v.Start.Y = n })
	add("the X of a step", -1000, 1000, func(v *survey.Vessel, n int) { v.Step.X = n })
	add("the Y of a step", -1000, 1000, func(v *survey.Vessel, n int) { v.Step.Y = n })
	add("ticks", 1, 4096, func(v *survey.Vessel, n int) { v.Ticks = n })
	return l
}

// badWatches returns watches with the error of each part.
func badWatches() []bad[survey.Watch] {
	var l []bad[survey.Watch]
	add := func(what string, high int, set func(w *survey.Watch, n int)) {
		for _, n := range outside(0, high) {
			w := watch()
			set(&w, n)
			l = append(l, bad[survey.Watch]{what, w, api.ErrRange})
		}
	}
	add("a ring", 10000, func(w *survey.Watch, n int) { w.Ring = n })
	add("a speed", 1000, func(w *survey.Watch, n int) { w.Speed = n })
	add("a loss", 1000, func(w *survey.Watch, n int) { w.Loss = n })
	add("a clear watch", 1000, func(w *survey.Watch, n int) { w.Clear = n })
	add("a soft start", 1000, func(w *survey.Watch, n int) { w.Soft = n })
	return l
}

// badSightings returns sightings with each error of CheckSightings, and with two where their order matters.
func badSightings() []bad[[]survey.Sighting] {
	list := func(l ...survey.Sighting) []survey.Sighting { return l }
	l := []bad[[]survey.Sighting]{
		{"65 sightings", make([]survey.Sighting, 65), api.ErrMany},
		{"65 sightings that are none", slices.Repeat(list(sighting(-1, 0, 0)), 65), api.ErrMany},
		{"ticks that descend", list(sighting(2, 0, 0), sighting(1, 0, 0)), api.ErrOrder},
		{"ticks that descend at the end", list(sighting(1, 0, 0), sighting(1, 5, 5), sighting(3, 0, 0), sighting(2, 0, 0)), api.ErrOrder},
		{"a tick before the order", list(sighting(2, 0, 0), sighting(-1, 0, 0)), api.ErrRange},
		{"a place before the order", list(sighting(2, 0, 0), sighting(1, 0, 100001)), api.ErrRange},
		{"an order before the next range", list(sighting(2, 0, 0), sighting(1, 0, 0), sighting(-1, 0, 0)), api.ErrOrder},
		{"a range before the next order", list(sighting(2, -100001, 0), sighting(1, 0, 0)), api.ErrRange},
	}
	for _, n := range outside(0, 100000) {
		l = append(l, bad[[]survey.Sighting]{"a tick", list(sighting(0, 0, 0), sighting(n, 0, 0)), api.ErrRange})
	}
	for _, n := range outside(-100000, 100000) {
		l = append(l, bad[[]survey.Sighting]{"an X", list(sighting(1, n, 0), sighting(1, 0, 0)), api.ErrRange}, bad[[]survey.Sighting]{"a Y", list(sighting(1, 0, 0), sighting(1, 0, n)), api.ErrRange})
	}
	return l
}

// badSpans returns spans of ticks with each error, and with two where their order matters.
func badSpans() []bad[[]api.Span] {
	l := []bad[[]api.Span]{
		{"257 spans", steps(257), api.ErrMany},
		{"257 spans that are none", make([]api.Span, 257), api.ErrMany},
		{"an order", spans(0, 3, 2, 4), api.ErrOrder},
		{"a span twice", spans(0, 3, 0, 3), api.ErrOrder},
		{"a span before", spans(5, 6, 1, 2), api.ErrOrder},
		{"a span inside of another one", spans(0, 9, 3, 4), api.ErrOrder},
		{"an order at the end", spans(0, 3, 3, 5, 4, 6), api.ErrOrder},
		{"a span before the order", spans(2, 5, 4, 4), api.ErrSpan},
		{"a From below 0 before the order", spans(2, 5, -1, 4), api.ErrSpan},
		{"an end before the order", spans(2, 5, 4, 100001), api.ErrSpan},
		{"an order before the next span", spans(2, 5, 4, 6, 8, 8), api.ErrOrder},
		{"a span before the next order", spans(5, 5, 4, 6, 5, 7), api.ErrSpan},
	}
	for _, x := range badEnds() {
		l = append(l, bad[[]api.Span]{"a span", []api.Span{x}, api.ErrSpan}, bad[[]api.Span]{"a span at the end", []api.Span{span(0, 1), x}, api.ErrSpan})
	}
	return l
}

// badEnds returns spans that are empty, or not from 0 on and within MaxTime.
func badEnds() []api.Span {
	return spans(0, 0, 3, 3, 100000, 100000, -1, 1, -2, -1, 3, 2, 1, 0, 0, 100001, 100000, 100001, 100001, 100002, math.MinInt, math.MaxInt, math.MaxInt, math.MinInt, math.MinInt, 5, 5, math.MaxInt, math.MaxInt, math.MaxInt)
}

// steps returns so many spans of one tick, each two ticks behind the one before it.
func steps(count int) []api.Span {
	var l []api.Span
	for i := range count {
		l = append(l, span(2*i, 2*i+1))
	}
	return l
}

// badFires returns shots of the vessel of the chapter with each error, and with two where their order matters.
func badFires() []bad[[]survey.Fire] {
	list := func(l ...survey.Fire) []survey.Fire { return l }
	l := []bad[[]survey.Fire]{
		{"257 shots", slices.Repeat(fire(11, 1), 257), api.ErrMany},
		{"257 shots that are none", make([]survey.Fire, 257), api.ErrMany},
		{"the zero value", make([]survey.Fire, 1), api.ErrRange},
		{"a tick behind one that is not permitted", list(survey.Fire{Tick: 3, Level: 1}, survey.Fire{Tick: 12, Level: 1}), api.ErrRange},
		{"a level behind one that is not permitted", list(survey.Fire{Tick: 7, Level: 1}, survey.Fire{Tick: 11, Level: 0}), api.ErrRange},
	}
	for _, n := range outside(0, 11) {
		l = append(l, bad[[]survey.Fire]{"a tick", fire(n, 1), api.ErrRange})
	}
	for _, n := range outside(1, 1001) {
		l = append(l, bad[[]survey.Fire]{"a level", fire(11, n), api.ErrRange})
	}
	return l
}

// badEntries returns entries with each error of CheckEntries, and with two where their order matters.
func badEntries() []bad[[]survey.Entry] {
	l := []bad[[]survey.Entry]{
		{"65 entries", each(65), api.ErrMany},
		{"65 entries that are none", make([]survey.Entry, 65), api.ErrMany},
		{"the zero value", make([]survey.Entry, 1), api.ErrSpan},
		{"an order", entries(entry(0, 3, "turn"), entry(2, 4, "turn")), api.ErrOrder},
		{"an entry twice", entries(entry(0, 3, "turn"), entry(0, 3, "turn")), api.ErrOrder},
		{"an entry before", entries(entry(5, 6, "gear"), entry(1, 2, "turn")), api.ErrOrder},
		{"an order at the end", append(day(), entry(11, 13, "shoot")), api.ErrOrder},
		{"a span before the cause", entries(entry(3, 3, "rest")), api.ErrSpan},
		{"a cause before the order", entries(entry(0, 3, "turn"), entry(2, 4, "rest")), api.ErrKind},
		{"a span before the order", entries(entry(0, 3, "turn"), entry(2, 2, "turn")), api.ErrSpan},
		{"an order before the next cause", entries(entry(0, 3, "turn"), entry(2, 4, "turn"), entry(5, 6, "rest")), api.ErrOrder},
		{"a cause before the next order", entries(entry(0, 3, "rest"), entry(2, 4, "turn")), api.ErrKind},
		{"a cause before the next span", entries(entry(0, 3, "rest"), entry(4, 4, "turn")), api.ErrKind},
	}
	for _, x := range badEnds() {
		l = append(l, bad[[]survey.Entry]{"a span", []survey.Entry{{Span: x, Cause: "turn"}}, api.ErrSpan}, bad[[]survey.Entry]{"a span at the end", []survey.Entry{entry(0, 1, "turn"), {Span: x, Cause: "turn"}}, api.ErrSpan})
	}
	for _, word := range []string{"", "rest", "Shoot", "shoot ", " shoot", "shoots", "shoo", "turn\n", "weather\x00", "\xff", "shoot turn", "lines", "total"} {
		l = append(l, bad[[]survey.Entry]{"a cause", entries(entry(0, 3, word)), api.ErrKind}, bad[[]survey.Entry]{"a cause at the end", append(day(), entry(20, 21, word)), api.ErrKind})
	}
	return l
}

// badContracts returns contracts with the error of each number.
func badContracts() []bad[survey.Contract] {
	var l []bad[survey.Contract]
	add := func(what string, low, high int, set func(c *survey.Contract, n int)) {
		for _, n := range outside(low, high) {
			c := contract(3)
			set(&c, n)
			l = append(l, bad[survey.Contract]{what, c, api.ErrRange})
		}
	}
	add("the rate of shoot", -10000, 10000, func(c *survey.Contract, n int) { c.Shoot = n })
	add("the rate of turn", -10000, 10000, func(c *survey.Contract, n int) { c.Turn = n })
	add("the rate of weather", -10000, 10000, func(c *survey.Contract, n int) { c.Weather = n })
	add("the rate of animal", -10000, 10000, func(c *survey.Contract, n int) { c.Animal = n })
	add("the rate of gear", -10000, 10000, func(c *survey.Contract, n int) { c.Gear = n })
	add("the rate of share", -10000, 10000, func(c *survey.Contract, n int) { c.Share = n })
	add("free ticks", 0, 100000, func(c *survey.Contract, n int) { c.Free = n })
	add("a bonus", 0, 10000, func(c *survey.Contract, n int) { c.Bonus = n })
	add("a penalty", 0, 10000, func(c *survey.Contract, n int) { c.Penalty = n })
	return l
}

// badResults returns results with each error of CheckResults, and with two where their order matters.
func badResults() []bad[[]survey.Result] {
	list := func(l ...survey.Result) []survey.Result { return l }
	l := []bad[[]survey.Result]{
		{"65 results", many(65), api.ErrMany},
		{"65 results that are none", make([]survey.Result, 65), api.ErrMany},
		{"the zero value", make([]survey.Result, 1), api.ErrName},
		{"a line twice", append(two(), result("a", 1, 1)), api.ErrTwice},
		{"a line twice, with the same folds", append(two(), two()[0]), api.ErrTwice},
		{"a line twice, with others between", append(many(63), many(1)[0]), api.ErrTwice},
		{"a name before the folds", list(result("9", -1, -1)), api.ErrName},
		{"a line twice before the folds", append(two(), result("b", -1, 10001)), api.ErrTwice},
		{"a name before the next line twice", append(two(), result("_", 1, 1), result("a", 1, 1)), api.ErrName},
		{"a line twice before the next name", append(two(), result("a", 1, 1), result("", 1, 1)), api.ErrTwice},
		{"a fold before the next line twice", append(two(), result("c", -1, 1), result("a", 1, 1)), api.ErrRange},
		{"a line twice before the next fold", append(two(), result("a", 1, 1), result("c", -1, 1)), api.ErrTwice},
		{"a fold before the line twice", list(result("a", -1, 1), result("a", 1, 1)), api.ErrRange},
	}
	for _, name := range []string{"", "1a", "_a", "a b", "a-b", "\u00e4", "a\n", "a\x00", "abcdefghijklmnopqrstuvwxy"} {
		l = append(l, bad[[]survey.Result]{"a name", append(two(), result(name, 1, 1)), api.ErrName})
	}
	for _, n := range outside(0, 10000) {
		l = append(l, bad[[]survey.Result]{"a fold", append(two(), result("c", n, 1)), api.ErrRange}, bad[[]survey.Result]{"a wanted fold", append(two(), result("c", 1, n)), api.ErrRange})
	}
	return l
}

// random is a sequence of numbers that is the same in each run.
type random uint64

// below returns the next number from 0 to n - 1.
func (r *random) below(n int) int {
	*r = *r*6364136223846793005 + 1442695040888963407
	return int(uint64(*r) >> 33 % uint64(n))
}

// integer returns the next number from -most to most.
func (r *random) integer(most int) int {
	return r.below(2*most+1) - most
}

// point returns a point whose coordinates are not beyond a greatest one.
func (r *random) point(most int) api.Point {
	return point(r.integer(most), r.integer(most))
}

// vessel returns a vessel with up to so many ticks.
func (r *random) vessel(ticks int) survey.Vessel {
	return survey.Vessel{Start: r.point(100), Step: r.point(6), Ticks: 1 + r.below(ticks)}
}

// watch returns a watch with small numbers.
func (r *random) watch() survey.Watch {
	return survey.Watch{Ring: r.below(60), Speed: r.below(6), Loss: r.below(6), Clear: r.below(5), Soft: r.below(5)}
}

// sightings returns at most so many sightings, not far from a vessel.
func (r *random) sightings(v survey.Vessel, count int) []survey.Sighting {
	var l []survey.Sighting
	tick := r.below(8)
	for range r.below(count + 1) {
		l = append(l, survey.Sighting{Tick: tick, Place: r.near(v, tick)})
		tick += r.below(12)
	}
	return l
}

// near returns a point that is not far from the place of a vessel at a tick.
func (r *random) near(v survey.Vessel, tick int) api.Point {
	by, at := r.point(60), placeOf(v, tick)
	return point(at.X+by.X, at.Y+by.Y)
}

// spans returns at most so many spans with lengths up to another number, some of which touch.
func (r *random) spans(count, length int) []api.Span {
	var l []api.Span
	from := r.below(4)
	for range r.below(count + 1) {
		to := from + 1 + r.below(length)
		l = append(l, span(from, to))
		from = to
		if r.below(3) > 0 {
			from += r.below(6)
		}
	}
	return l
}

// entries returns at most so many entries.
func (r *random) entries(count, length int) []survey.Entry {
	var l []survey.Entry
	for _, x := range r.spans(count, length) {
		l = append(l, survey.Entry{Span: x, Cause: survey.Causes()[r.below(6)]})
	}
	return l
}

// contract returns a contract.
func (r *random) contract(free int) survey.Contract {
	rate := func() int { return r.integer(10000) }
	return survey.Contract{Shoot: rate(), Turn: rate(), Weather: rate(), Animal: rate(), Gear: rate(), Share: rate(), Free: r.below(free + 1), Bonus: r.below(10001), Penalty: r.below(10001)}
}

// results returns at most so many results.
func (r *random) results(count int) []survey.Result {
	l := many(r.below(count + 1))
	for i := range l {
		l[i].Fold, l[i].Want = r.below(5), r.below(5)
	}
	return l
}
