package house_test

import (
	"math"
	"reflect"
	"slices"
	"strings"
	"testing"

	"moveout/api"
	"moveout/house"
)

// extremes are integers at the ends of their ranges, and beyond them.
var extremes = []int{math.MinInt, -1, 0, 1, 12, 33, 999999999, 1000000000, math.MaxInt}

func oddEvents() []api.Event {
	l := []api.Event{{}, event(18, "undo"), event(18, "release p1 12"), event(1, "undo")}
	for _, x := range badEvents() {
		l = append(l, x.x)
	}
	for kind, n := range shapes {
		for _, number := range ints(1, 18, 1000) {
			x := shaped(kind, n[0], n[1])
			x.Number = number
			l = append(l, x)
		}
		for _, n := range extremes {
			l = append(l, api.Event{Number: 18, Kind: kind, Names: strs("p1", "m1", "l1"), Values: ints(n, n, n)}, api.Event{Number: n, Kind: kind})
		}
	}
	return l
}

func oddLists() [][]api.Event {
	l := [][]api.Event{nil, {}, survey(1), survey(9), survey(17), after(survey(17), "undo; undo"), survey(17)[3:], make([]api.Event, 1000), make([]api.Event, 1001), make([]api.Event, 100000), events("undo")}
	for _, x := range badLists() {
		l = append(l, x)
	}
	for _, x := range oddEvents() {
		l = append(l, append(survey(17), x))
	}
	return l
}

func oddNames() []string {
	return strs("", "l1", "a", "s1", "m1", "m3", "j1", "p1", "\xff", strings.Repeat("x", 100000))
}

func oddTexts() []string {
	log := logOf(survey(17))
	return strs("", "\n", "#", "#\n", "\x00", "\xff\xfe\n", "0000001\n", "#0000001\n", "1 undo", recordOf("1 undo"), log, log[:len(log)-1], log[:100]+"\n"+log[100:], log+log, strings.Repeat("\n", 1000000), strings.Repeat("#", 1000000), strings.Repeat("9", 1000001), strings.Repeat("x", 3000000))
}

func oddLines() []string {
	l := strs("", " ", "undo", "undo ", "unsafe", "released", "left j1", "from p1", "tapes s1", "lines m3", "want l1", "left", "\x00", "\xff\xfe", strings.Repeat(" ", 4096), strings.Repeat("undo ", 800), strings.Repeat("x", 3000000), "tile j1 999999999 999999999 999999999", "module m9 m3 999999999 999999999", "run j9 m3 999999999 999999999", "tape z 999999999 999999999")
	for _, x := range oddEvents() {
		l = append(l, lineOf(x))
	}
	return l
}

// The limits are those of the chapter.
func TestLimits(t *testing.T) {
	same(t, "the limits", ints(house.MaxLines, house.MaxTapes, house.MaxShots, house.MaxModules, house.MaxJobs, house.MaxTiles, house.MaxPictures), ints(16, 16, 64, 32, 16, 32, 16))
}

// P1: no function panics, and together with an error every other result is its zero value.
func TestOddArguments(t *testing.T) {
	sums := [][]int{nil, {}, make([]int, 32), make([]int, 33), make([]int, 100000), extremes}
	combine(t, house.CheckEvent, oddEvents())
	combine(t, house.Replay, oddLists())
	combine(t, house.Accepts, oddLists()[:20], oddEvents())
	combine(t, house.AsOf, oddLists(), extremes)
	combine(t, house.Safe, oddLists()[:40], oddNames(), extremes)
	combine(t, house.Unsafe, oddLists(), extremes)
	for _, f := range []any{house.Left, house.Needs, house.Sources, house.Provenance, house.Story} {
		combine(t, f, oddLists()[:60], oddNames())
	}
	combine(t, house.Digest, sums)
	combine(t, house.Append, oddTexts(), oddEvents()[:40])
	combine(t, house.Recover, oddTexts())
	combine(t, house.New)
	combine(t, house.Open, oddTexts())
	combine(t, (*house.Session).Do, []*house.Session{nil, {}, house.New(), opened(t, survey(17))}, oddLines())
	combine(t, (*house.Session).Events, []*house.Session{nil, {}})
	combine(t, (*house.Session).Log, []*house.Session{nil, {}})
}

// combine calls a function with all combinations of the elements of some lists.
func combine(t *testing.T, f any, lists ...any) {
	t.Helper()
	calls := [][]reflect.Value{nil}
	for _, list := range lists {
		l := reflect.ValueOf(list)
		var longer [][]reflect.Value
		for _, args := range calls {
			for j := range l.Len() {
				longer = append(longer, append(slices.Clone(args), l.Index(j)))
			}
		}
		calls = longer
	}
	for _, args := range calls {
		checkCall(t, f, args)
	}
}

// checkCall calls a function, and checks what is beside an error.
func checkCall(t *testing.T, f any, args []reflect.Value) {
	t.Helper()
	// Recover gives events, and Replay a number, beside their errors.
	_, isRecover := f.(func(string) ([]api.Event, int, api.Errno))
	_, isReplay := f.(func([]api.Event) (house.Register, int, api.Errno))
	out := reflect.ValueOf(f).Call(args)
	e, is := out[len(out)-1].Interface().(api.Errno)
	for i, x := range out[:len(out)-1] {
		if isRecover || isReplay && i == 1 {
			continue
		}
		if is && e != api.OK && !isNothing(x.Interface()) {
			t.Errorf("a result beside the error %v is %v", e, x)
		}
	}
}

// mess changes all elements of a list, also those behind its end.
func mess[T any](l []T, to T) {
	l = l[:cap(l)]
	for i := range l {
		l[i] = to
	}
}

// messEvents changes all parts of events, and then the events.
func messEvents(l []api.Event) {
	for _, x := range l {
		mess(x.Names, "messed")
		mess(x.Values, -99)
	}
	mess(l, api.Event{Kind: "messed"})
}

// The rule 'Memory' for registers: no two lists of one result share memory, and none shares it with other results or with arguments.
func TestMemoryOfRegisters(t *testing.T) {
	fresh := func() []api.Event {
		return after(survey(17), "tape c 12 9; copy b c 12; undo; copy b c 12; source m4 l1 12; merge m5 m4 m1 12; run j2 m5 12 3; tile j2 12 1 8; run j3 m5 12 2")
	}
	want := registerOf(counting(fresh()))
	for range 2 {
		l := fresh()
		r := replay(t, l)
		past, e := house.AsOf(l, 12)
		ok(t, "AsOf", e)
		same(t, "the events", l, fresh())
		messEvents(l)
		same(t, "the register when the events are changed", r, want)
		for i := range r.Shots {
			same(t, "the tapes of a shot", r.Shots[i].Tapes, want.Shots[i].Tapes)
			mess(r.Shots[i].Tapes, "messed")
		}
		for i := range r.Modules {
			same(t, "the inputs of a module", r.Modules[i].Inputs, want.Modules[i].Inputs)
			mess(r.Modules[i].Inputs, "messed")
		}
		for i := range r.Jobs {
			same(t, "the checksums of a job", r.Jobs[i].Sums, want.Jobs[i].Sums)
			mess(r.Jobs[i].Sums, -99)
		}
		mess(r.Lines, house.Line{})
		mess(r.Tapes, house.Tape{})
		mess(r.Shots, house.Shot{})
		mess(r.Modules, house.Module{})
		mess(r.Jobs, house.Job{})
		mess(r.Pictures, house.Picture{})
		same(t, "another register", past, want)
	}
}

// The rule 'Memory' for questions, stories and logs.
func TestMemoryOfLists(t *testing.T) {
	l := survey(13)
	for range 2 {
		left, e := house.Left(l, "j1")
		ok(t, "Left", e)
		same(t, "Left", left, ints(1))
		mess(left, -99)
		for _, f := range []func() ([]string, api.Errno){
			func() ([]string, api.Errno) { return house.Needs(l, "m1") },
			func() ([]string, api.Errno) { return house.Sources(l, "m1") },
			func() ([]string, api.Errno) { return house.Unsafe(l, 106) },
			func() ([]string, api.Errno) { return house.Provenance(survey(17), "p1") },
		} {
			got, e := f()
			ok(t, "a question", e)
			mess(got, "messed")
			again, e := f()
			ok(t, "a question", e)
			same(t, "the words of an answer", slices.Contains(again, "messed"), false)
		}
		story, e := house.Story(l, "l1")
		ok(t, "Story", e)
		same(t, "Story", story, survey(8))
		messEvents(story)
		same(t, "the events", l, survey(13))
	}
	story, e := house.Story(l, "l1")
	ok(t, "Story", e)
	messEvents(l)
	same(t, "the story when the events are changed", story, survey(8))
	for range 2 {
		back, _, e := house.Recover(logOf(survey(9)))
		ok(t, "Recover", e)
		same(t, "Recover", back, survey(9))
		messEvents(back)
	}
	sums, x := ints(5, 6, 7), survey(1)[0]
	_, e = house.Digest(sums)
	ok(t, "Digest", e)
	_, e = house.Append("", x)
	ok(t, "Append", e)
	same(t, "the arguments", []any{sums, x}, []any{ints(5, 6, 7), survey(1)[0]})
}

// The rule 'Memory' for sessions.
func TestMemoryOfSessions(t *testing.T) {
	s := opened(t, survey(16))
	for range 2 {
		l := s.Events()
		same(t, "Events", l, survey(16))
		messEvents(l)
		same(t, "Log", s.Log(), logOf(survey(16)))
	}
	do(t, s, "left j1", "none", api.OK)
	do(t, s, "picture p1 j1 12", "done 17", api.OK)
	do(t, s, "tapes s1", "a b", api.OK)
}

// The rule 'Determinism': the same call has the same result again, and events that are accepted are not changed by later ones.
func TestSameAgain(t *testing.T) {
	r := random(12)
	for range 40 {
		l := r.house(80)
		first, log := replay(t, l), logOf(l)
		for range 3 {
			same(t, "Replay again", replay(t, l), first)
			s := opened(t, l)
			same(t, "Log again", s.Log(), log)
			for _, line := range strs("unsafe", "released", "lines m1", "left j1", "from p1") {
				x, e1 := s.Do(line)
				y, e2 := s.Do(line)
				same(t, "Do again", []any{y, e2}, []any{x, e1})
			}
		}
	}
}
