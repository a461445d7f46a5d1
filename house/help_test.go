package house_test

import (
	"math"
	"reflect"
	"strconv"
	"strings"
	"testing"

	"moveout/api"
	"moveout/house"
)

// same compares a result with the expected one; nil and empty lists are equal.
func same(t *testing.T, what string, got, want any) {
	t.Helper()
	if !alike(reflect.ValueOf(got), reflect.ValueOf(want)) {
		t.Errorf("%s: got %v, want %v", what, got, want)
	}
}

// alike reports whether two values are equal, with nil and empty lists as the same.
func alike(a, b reflect.Value) bool {
	if !a.IsValid() || !b.IsValid() || a.Type() != b.Type() {
		return a.IsValid() == b.IsValid()
	}
	switch a.Kind() {
	case reflect.Interface:
		return alike(a.Elem(), b.Elem())
	case reflect.Slice:
		is := a.Len() == b.Len()
		for i := 0; is && i < a.Len(); i++ {
			is = alike(a.Index(i), b.Index(i))
		}
		return is
	case reflect.Struct:
		is := true
		for i := 0; is && i < a.NumField(); i++ {
			is = alike(a.Field(i), b.Field(i))
		}
		return is
	}
	return a.Equal(b)
}

// isNothing reports whether a result is a zero value, or an empty list.
func isNothing(x any) bool {
	v := reflect.ValueOf(x)
	return v.IsZero() || v.Kind() == reflect.Slice && v.Len() == 0
}

// ok fails the test if there is an error.
func ok(t *testing.T, what string, e api.Errno) {
	t.Helper()
	if e != api.OK {
		t.Fatalf("%s: got the error %d", what, e)
	}
}

// fails checks an error, and that all results beside it are zero values.
func fails(t *testing.T, what string, e, want api.Errno, results ...any) {
	t.Helper()
	if e != want {
		t.Errorf("%s: got the error %d, want %d", what, e, want)
	}
	for _, got := range results {
		if e != api.OK && !isNothing(got) {
			t.Errorf("%s: got %v beside the error %d", what, got, e)
		}
	}
}

func ints(l ...int) []int { return l }

func strs(l ...string) []string { return l }

// event returns the event of a line of the console, with a number.
func event(number int, line string) api.Event {
	words := strings.Split(line, " ")
	e := api.Event{Number: number, Kind: words[0]}
	for _, word := range words[1:] {
		if n, err := strconv.Atoi(word); err == nil {
			e.Values = append(e.Values, n)
		} else {
			e.Names = append(e.Names, word)
		}
	}
	return e
}

// lineOf returns the line of the console for an event.
func lineOf(e api.Event) string {
	words := append(strs(e.Kind), e.Names...)
	for _, n := range e.Values {
		words = append(words, strconv.Itoa(n))
	}
	return strings.Join(words, " ")
}

// after returns some events with others behind them, which are lines of the console with "; " between two of them.
func after(l []api.Event, lines string) []api.Event {
	out := append([]api.Event(nil), l...)
	if lines == "" {
		return out
	}
	for _, line := range strings.Split(lines, "; ") {
		out = append(out, event(len(out)+1, line))
	}
	return out
}

// events returns the events of lines of the console.
func events(lines string) []api.Event { return after(nil, lines) }

// survey returns the first events of the chapter.
func survey(count int) []api.Event {
	return events("tape a 1 10; tape b 5 100; line l1 5 2; shot s1 l1 a 6; shot s2 l1 b 7; copy a b 8; accept l1 9; source m1 l1 9; module m2 m1 9 2; module m3 m2 9 3; run j1 m3 10 3; tile j1 10 2 7; tile j1 10 0 5; fail j1 11 2; tile j1 11 1 6; tile j1 11 2 7; picture p1 j1 12")[:count]
}

// lines returns so many lines of the console, joined, with %d as their indices.
func lines(count int, line string) string {
	var l []string
	for i := range count {
		l = append(l, strings.ReplaceAll(line, "%d", strconv.Itoa(i)))
	}
	return strings.Join(l, "; ")
}

// long returns so many events that are accepted.
func long(count int) []api.Event {
	return events(lines(count, "tape t%d 0 1; undo"))[:count]
}

// logOf returns the log of events.
func logOf(l []api.Event) string {
	s := ""
	for _, x := range l {
		s += recordOf(bodyOf(x))
	}
	return s
}

// replay returns the register of events that are accepted.
func replay(t *testing.T, l []api.Event) house.Register {
	t.Helper()
	r, n, e := house.Replay(l)
	if e != api.OK || n != 0 {
		t.Fatalf("Replay: got the error %d for the event %d", e, n)
	}
	return r
}

// opened returns a session with events that are accepted.
func opened(t *testing.T, l []api.Event) *house.Session {
	t.Helper()
	s, e := house.Open(logOf(l))
	ok(t, "Open", e)
	return s
}

// random is a sequence of numbers that is the same in each run.
type random uint64

// below returns the next number from 0 to n - 1.
func (r *random) below(n int) int {
	*r = *r*6364136223846793005 + 1442695040888963407
	return int(uint64(*r) >> 33 % uint64(n))
}

// name returns one of so many names that begin with a letter.
func (r *random) name(letter string, count int) string {
	return letter + strconv.Itoa(r.below(count))
}

// odds are what a random line of the console is: later ones are reached by fewer lists, and stand here more often.
var odds = strs("line", "tape", "shot", "shot", "shot", "shot", "copy", "copy", "accept", "accept", "source", "source", "module", "module", "module", "merge", "merge", "run", "run", "run", "tile", "tile", "tile", "tile", "tile", "tile", "tile", "tile", "fail", "fail", "picture", "picture", "picture", "release", "undo")

// line returns a line of the console at a tick; it has a form, and its event may be accepted.
func (r *random) line(tick int) string {
	kind := odds[r.below(len(odds))]
	line, tape, shot, module := r.name("l", 3), r.name("t", 4), r.name("s", 12), r.name("m", 9)
	job, picture, at := r.name("j", 4), r.name("p", 4), strconv.Itoa(tick)
	small := func(n int) string { return strconv.Itoa(r.below(n)) }
	var words []string
	switch kind {
	case "line":
		words = strs(line, at, small(4))
	case "tape":
		words = strs(tape, at, small(60))
	case "shot":
		words = strs(shot, line, tape, at)
	case "copy":
		words = strs(tape, r.name("t", 4), at)
	case "accept":
		words = strs(line, at)
	case "source":
		words = strs(module, line, at)
	case "module":
		words = strs(module, r.name("m", 9), at, small(6))
	case "merge":
		words = strs(module, r.name("m", 9), r.name("m", 9), at)
	case "run":
		words = strs(job, module, at, small(4))
	case "tile":
		words = strs(job, at, small(4), small(1000000000))
	case "fail":
		words = strs(job, at, small(4))
	case "picture":
		words = strs(picture, job, at)
	case "release":
		words = strs(picture, at)
	}
	return strings.Join(append(strs(kind), words...), " ")
}

// event returns an event behind others at a tick near that of the last one.
func (r *random) event(l []api.Event) api.Event {
	by := ints(-1, 0, 0, 0, 0, 0, 1, 1, 2, 5)
	tick := tickOf(counting(l)) + by[r.below(len(by))]
	return event(len(l)+1, r.line(max(tick, 0)))
}

// begin returns some events at the begin of others, or none.
func (r *random) begin() []api.Event {
	return events(strs("", "tape t0 0 20; tape t1 0 40; line l0 0 2; line l1 0 1; shot s0 l0 t0 1; shot s1 l1 t1 1; shot s2 l0 t0 1; accept l1 1; accept l0 1; source m0 l0 1; source m1 l1 2; merge m2 m1 m0 2; run j0 m2 3 2; run j1 m1 3 1; tile j1 3 0 5; tile j0 3 0 6; picture p0 j1 3", "tape t0 0 40; line l0 0 2; shot s0 l0 t0 1; shot s1 l0 t0 1", "line l0 2 1; tape t0 2 20; shot s0 l0 t0 2; accept l0 3; source m0 l0 3", "line l1 1 1; tape t1 1 9; shot s1 l1 t1 2; accept l1 2; source m1 l1 2; module m2 m1 2 2; run j1 m2 2 1; run j2 m1 3 2")[r.below(5)])
}

// house returns events that are accepted: the first ones, and those of so many others that are.
func (r *random) house(tries int) []api.Event {
	l := r.begin()
	for range tries {
		if x := r.event(l); errorOf(l, x) == api.OK {
			l = append(l, x)
		}
	}
	return l
}

// outside returns numbers that are not from low to high.
func outside(low, high int) []int {
	return ints(low-1, high+1, math.MinInt, math.MaxInt)
}
