package house_test

import (
	"slices"
	"testing"

	"moveout/api"
	"moveout/house"
)

// badLists are lists of events that Replay refuses, with its errors.
func badLists() map[api.Errno][]api.Event {
	return map[api.Errno][]api.Event{
		api.ErrMany: make([]api.Event, 1001), api.ErrOrder: survey(17)[1:], api.ErrState: after(survey(17), "line l2 1 1"),
		api.ErrForm: append(survey(16), api.Event{Number: 17, Kind: "undo", Text: "x"}),
	}
}

// P10.2: Safe.
func TestSafe(t *testing.T) {
	for _, x := range []struct {
		count int
		shot  string
		tick  int
		want  bool
	}{
		{4, "s1", 11, true}, {4, "s1", 12, false}, {5, "s1", 11, true}, {5, "s1", 12, false}, {5, "s2", 12, true}, {6, "s1", 11, true}, {6, "s1", 12, true},
		{6, "s1", 105, true}, {6, "s1", 106, false}, {6, "s2", 105, true}, {6, "s2", 106, false}, {6, "s1", 0, true}, {6, "s2", 0, true}, {17, "s1", 999999999, false},
	} {
		got, e := house.Safe(survey(x.count), x.shot, x.tick)
		ok(t, "Safe", e)
		same(t, "Safe of "+x.shot, got, x.want)
	}
	for _, tick := range outside(0, 999999999) {
		is, e := house.Safe(survey(6), "s1", tick)
		fails(t, "Safe", e, api.ErrRange, is)
		for _, shot := range strs("s3", "", "a", "l1") {
			is, e = house.Safe(survey(6), shot, tick)
			fails(t, "Safe of no shot", e, api.ErrUnknown, is)
		}
		for want, l := range badLists() {
			is, e = house.Safe(l, "s3", tick)
			fails(t, "Safe of no events", e, want, is)
		}
	}
	is, e := house.Safe(after(survey(4), "undo"), "s1", 5)
	fails(t, "Safe of a shot that was undone", e, api.ErrUnknown, is)
}

// P10.2: Unsafe.
func TestUnsafe(t *testing.T) {
	for _, x := range []struct {
		count, tick int
		want        []string
	}{{0, 0, nil}, {5, 0, nil}, {5, 11, nil}, {5, 12, strs("s1")}, {5, 105, strs("s1")}, {5, 106, strs("s1", "s2")}, {6, 105, nil}, {6, 106, strs("s1", "s2")}, {17, 999999999, strs("s1", "s2")}} {
		got, e := house.Unsafe(survey(x.count), x.tick)
		ok(t, "Unsafe", e)
		same(t, "Unsafe", got, x.want)
	}
	got, e := house.Unsafe(events("line l 0 1; tape b 0 5; tape a 0 5; tape c 0 9; shot z l a 0; shot y l c 0; shot x l b 0"), 6)
	ok(t, "Unsafe", e)
	same(t, "the order of Unsafe", got, strs("z", "x"))
	for _, tick := range outside(0, 999999999) {
		got, e := house.Unsafe(survey(6), tick)
		fails(t, "Unsafe", e, api.ErrRange, got)
		for want, l := range badLists() {
			got, e = house.Unsafe(l, tick)
			fails(t, "Unsafe of no events", e, want, got)
		}
	}
}

// P10.2: Left.
func TestLeft(t *testing.T) {
	for count, want := range map[int][]int{11: {0, 1, 2}, 12: {0, 1}, 13: {1}, 14: {1, 2}, 15: {2}, 16: nil, 17: nil} {
		got, e := house.Left(survey(count), "j1")
		ok(t, "Left", e)
		same(t, "Left", got, want)
	}
	got, e := house.Left(after(survey(10), "run j1 m3 9 32; run j2 m1 9 2; tile j2 9 1 0"), "j2")
	ok(t, "Left", e)
	same(t, "Left of another job", got, ints(0))
}

// P10.2: Needs and Sources.
func TestGraph(t *testing.T) {
	two := events("line y 0 1; line x 0 1; line z 0 1; source m2 x 0; source m1 y 0; module m3 m2 0 1; source m6 x 0; merge m4 m1 m3 0; source m5 z 0; merge m7 m6 m2 0; merge m8 m4 m7 0; module m9 m8 0 2")
	for _, x := range []struct {
		module       string
		needs, lines []string
	}{
		{"m1", strs("m1"), strs("y")}, {"m2", strs("m2"), strs("x")}, {"m3", strs("m2", "m3"), strs("x")}, {"m4", strs("m2", "m1", "m3", "m4"), strs("y", "x")}, {"m5", strs("m5"), strs("z")},
		{"m7", strs("m2", "m6", "m7"), strs("x")}, {"m9", strs("m2", "m1", "m3", "m6", "m4", "m7", "m8", "m9"), strs("y", "x")},
	} {
		needs, e := house.Needs(two, x.module)
		ok(t, "Needs", e)
		same(t, "Needs of "+x.module, needs, x.needs)
		lines, e := house.Sources(two, x.module)
		ok(t, "Sources", e)
		same(t, "Sources of "+x.module, lines, x.lines)
	}
	needs, e := house.Needs(survey(10), "m3")
	ok(t, "Needs", e)
	same(t, "Needs of example 3", needs, strs("m1", "m2", "m3"))
}

// P10.2: Provenance has the shots of all lines of a picture, in the order of the register.
func TestProvenance(t *testing.T) {
	got, e := house.Provenance(survey(17), "p1")
	ok(t, "Provenance", e)
	same(t, "Provenance of example 5", got, strs("s1", "s2"))
	l := events("tape a 0 9; line k 0 1; line l 0 1; line n 0 1; shot s l a 0; shot q n a 0; shot r k a 0; shot b l a 0; accept l 0; accept k 0; accept n 0; source x l 0; source y k 0; source z n 0; merge m x y 0; run i m 0 1; run j z 0 1; tile i 0 0 1; tile j 0 0 1; picture p i 0; picture o j 0; tape c 99 0")
	for picture, want := range map[string][]string{"p": strs("s", "r", "b"), "o": strs("q")} {
		got, e := house.Provenance(l, picture)
		ok(t, "Provenance", e)
		same(t, "Provenance of "+picture, got, want)
	}
}

// P10.2: Digest.
func TestDigest(t *testing.T) {
	for _, x := range []struct {
		l    []int
		want int
	}{
		{ints(5, 6, 7), 529174}, {ints(7, 6, 5), 661270}, {ints(0), 257}, {ints(5), 262}, {ints(16777213 - 257), 0}, {ints(999999999), 10144689}, {slices.Repeat(ints(999999999), 32), digestOf(slices.Repeat(ints(999999999), 32))},
	} {
		got, e := house.Digest(x.l)
		ok(t, "Digest", e)
		same(t, "Digest", got, x.want)
	}
	for _, x := range []struct {
		l []int
		e api.Errno
	}{{nil, api.ErrEmpty}, {ints(), api.ErrEmpty}, {make([]int, 33), api.ErrMany}, {slices.Repeat(ints(-1), 33), api.ErrMany}, {ints(1, -1), api.ErrRange}, {ints(1000000000), api.ErrRange}} {
		got, e := house.Digest(x.l)
		fails(t, "Digest", e, x.e, got)
	}
	for _, n := range outside(0, 999999999) {
		got, e := house.Digest(append(make([]int, 31), n))
		fails(t, "Digest", e, api.ErrRange, got)
	}
}

// P10.2: Story.
func TestStory(t *testing.T) {
	l := after(survey(8), "line l2 9 1; undo; line l2 9 1; shot s5 l2 b 9; shot s6 l2 a 9; copy b a 10; accept l2 10; module m2 m1 10 2; source m4 l2 10; source m5 l1 11; merge m6 m4 m5 11; run j m6 11 1; tile j 11 0 3; fail j 11 0; tile j 12 0 3; picture p j 12; release p 12; tape c 13 1; line l1x 14 1")
	for line, want := range map[string]string{
		"l1":  "tape a 1 10; tape b 5 100; line l1 5 2; shot s1 l1 a 6; shot s2 l1 b 7; copy a b 8; accept l1 9; source m1 l1 9; copy b a 10; source m5 l1 11; tape c 13 1",
		"l2":  "tape a 1 10; tape b 5 100; copy a b 8; line l2 9 1; shot s5 l2 b 9; shot s6 l2 a 9; copy b a 10; accept l2 10; source m4 l2 10; tape c 13 1",
		"l1x": "tape a 1 10; tape b 5 100; copy a b 8; copy b a 10; tape c 13 1; line l1x 14 1",
	} {
		got, e := house.Story(l, line)
		ok(t, "Story", e)
		same(t, "Story of "+line, got, events(want))
	}
	// a shot, a module and a line may have the same name
	got, e := house.Story(events("tape x 0 9; line x 0 1; line y 0 1; shot x y x 0; shot y x x 0; accept y 0; source x y 0"), "x")
	ok(t, "Story", e)
	same(t, "Story of a line with the name of others", got, events("tape x 0 9; line x 0 1; shot y x x 0"))
	got, e = house.Story(after(survey(3), "undo"), "l1")
	fails(t, "Story of a line that was undone", e, api.ErrUnknown, got)
}

// P10.2: the errors of Left, Needs, Sources, Provenance and Story.
func TestQuestionErrors(t *testing.T) {
	type asked func(l []api.Event, name string) (any, api.Errno)
	for what, x := range map[string]struct {
		ask  asked
		name string
	}{
		"Left":       {func(l []api.Event, name string) (any, api.Errno) { x, e := house.Left(l, name); return x, e }, "j1"},
		"Needs":      {func(l []api.Event, name string) (any, api.Errno) { x, e := house.Needs(l, name); return x, e }, "m1"},
		"Sources":    {func(l []api.Event, name string) (any, api.Errno) { x, e := house.Sources(l, name); return x, e }, "m1"},
		"Provenance": {func(l []api.Event, name string) (any, api.Errno) { x, e := house.Provenance(l, name); return x, e }, "p1"},
		"Story":      {func(l []api.Event, name string) (any, api.Errno) { x, e := house.Story(l, name); return x, e }, "l1"},
	} {
		for _, name := range strs("", "x", "l1", "a", "s1", "m1", "j1", "p1") {
			got, e := x.ask(survey(17), name)
			want := api.ErrUnknown
			if name == x.name {
				want = api.OK
			}
			fails(t, what+" of "+name, e, want, got)
			for want, l := range badLists() {
				got, e = x.ask(l, name)
				fails(t, what+" of no events", e, want, got)
			}
			got, e = x.ask(nil, name)
			fails(t, what+" without events", e, api.ErrUnknown, got)
		}
	}
}

// P10.2: questions are answered as the definitions say.
func TestRandomQuestions(t *testing.T) {
	r := random(2)
	pictures := 0
	for range 150 {
		l := r.house(150)
		c := counting(l)
		tick := r.below(tickOf(c) + 20)
		register := registerOf(c)
		var shots []string
		for _, x := range register.Shots {
			shots = append(shots, x.Name)
			is, e := house.Safe(l, x.Name, tick)
			same(t, "Safe", []any{is, e}, []any{isSafe(c, x.Name, tick), api.OK})
		}
		got, e := house.Unsafe(l, tick)
		same(t, "Unsafe", []any{got, e}, []any{unsafeOf(c, shots, tick), api.OK})
		for _, x := range register.Jobs {
			left, e := house.Left(l, x.Name)
			same(t, "Left", []any{left, e}, []any{leftOf(c, x.Name), api.OK})
		}
		for _, x := range register.Modules {
			needs, e := house.Needs(l, x.Name)
			same(t, "Needs", []any{needs, e}, []any{needsOf(c, x.Name), api.OK})
			lines, e := house.Sources(l, x.Name)
			same(t, "Sources", []any{lines, e}, []any{linesOf(c, x.Name), api.OK})
		}
		for _, x := range register.Pictures {
			from, e := house.Provenance(l, x.Name)
			same(t, "Provenance", []any{from, e}, []any{fromOf(c, x.Name), api.OK})
			pictures++
		}
		for _, x := range register.Lines {
			story, e := house.Story(l, x.Name)
			same(t, "Story", []any{story, e}, []any{storyOf(c, x.Name), api.OK})
		}
	}
	if pictures < 50 {
		t.Errorf("there were %d pictures", pictures)
	}
}
