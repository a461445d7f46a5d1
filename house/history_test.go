package house_test

import (
	"strconv"
	"strings"
	"testing"

	"moveout/api"
	"moveout/house"
)

// try checks with which error an event is accepted after others, or not: by Accepts, by Replay, and by a session.
func try(t *testing.T, what string, l []api.Event, x api.Event, want api.Errno) {
	t.Helper()
	same(t, what+": Accepts", house.Accepts(l, x), want)
	r, n, e := house.Replay(append(l[:len(l):len(l)], x))
	if want == api.OK {
		same(t, what+": Replay", []any{n, e}, []any{0, api.OK})
	} else {
		fails(t, what+": Replay", e, want, r)
		same(t, what+": the number of Replay", n, len(l)+1)
	}
	if x.Number != len(l)+1 {
		return
	}
	s := opened(t, l)
	before := s.Log()
	answer, e := s.Do(lineOf(x))
	fails(t, what+": Do", e, want, answer)
	if want == api.OK {
		same(t, what+": Do", answer, "done "+strconv.Itoa(x.Number))
		before += recordOf(bodyOf(x))
	}
	same(t, what+": Log", s.Log(), before)
}

// tries is events, lines of the console behind them, one more line, and its error.
type tries struct {
	l    []api.Event
	more string
	line string
	e    api.Errno
}

func tryAll(t *testing.T, l []tries) {
	t.Helper()
	for _, x := range l {
		before := after(x.l, x.more)
		try(t, x.more+"; "+x.line, before, event(len(before)+1, x.line), x.e)
	}
}

// P10.1: Replay of no events, and of those of the chapter.
func TestReplay(t *testing.T) {
	for _, l := range [][]api.Event{nil, {}} {
		same(t, "Replay of no events", replay(t, l), house.Register{})
	}
	want := house.Register{Tick: 8,
		Lines: []house.Line{{Name: "l1", Want: 2}},
		Tapes: []house.Tape{{Name: "a", Last: 11}, {Name: "b", Last: 105}},
		Shots: []house.Shot{{Name: "s1", Line: "l1", Tapes: strs("a", "b")}, {Name: "s2", Line: "l1", Tapes: strs("b")}},
	}
	same(t, "Replay of 6 events", replay(t, survey(6)), want)
	want.Tick, want.Lines[0].Accepted = 9, true
	want.Modules = []house.Module{{Name: "m1", Gives: "shots", Line: "l1"}, {Name: "m2", Gives: "section", Inputs: strs("m1")}, {Name: "m3", Gives: "image", Inputs: strs("m2")}}
	same(t, "Replay of 10 events", replay(t, survey(10)), want)
	want.Tick, want.Jobs = 11, []house.Job{{Name: "j1", Module: "m3", Sums: ints(5, -1, -1)}}
	same(t, "Replay of 14 events", replay(t, survey(14)), want)
	want.Tick, want.Jobs[0].Sums = 12, ints(5, 6, 7)
	want.Pictures = []house.Picture{{Name: "p1", Job: "j1", Digest: 529174}}
	same(t, "Replay of 17 events", replay(t, survey(17)), want)
	want.Tick, want.Pictures[0].Released = 20, true
	same(t, "Replay of a release", replay(t, after(survey(17), "release p1 20")), want)
}

// P10.1: what each kind of module gives, and the inputs of a merge in their order.
func TestModulesGive(t *testing.T) {
	l := events("line l 0 1; source a l 0; source b l 0; module c b 0 1; merge d b a 0; module e d 0 2; module f c 0 2; merge g f e 0; module h g 0 3; module i h 0 4; merge j i h 0")
	want := []house.Module{
		{Name: "a", Gives: "shots", Line: "l"}, {Name: "b", Gives: "shots", Line: "l"}, {Name: "c", Gives: "shots", Inputs: strs("b")}, {Name: "d", Gives: "shots", Inputs: strs("b", "a")},
		{Name: "e", Gives: "section", Inputs: strs("d")}, {Name: "f", Gives: "section", Inputs: strs("c")}, {Name: "g", Gives: "section", Inputs: strs("f", "e")},
		{Name: "h", Gives: "image", Inputs: strs("g")}, {Name: "i", Gives: "image", Inputs: strs("h")}, {Name: "j", Gives: "image", Inputs: strs("i", "h")},
	}
	same(t, "the modules", replay(t, l).Modules, want)
}

// P10.1: the tapes of a shot are in the order in which it came to them, each once.
func TestCopies(t *testing.T) {
	tapes := events("tape a 0 9; tape b 0 9; tape c 0 9; line l 0 1; line k 0 1")
	for _, x := range []struct {
		more string
		want []house.Shot
	}{
		{"copy a b 1", nil},
		{"shot s l c 1; copy c a 1; copy a b 1; shot q k a 2; copy a c 2; copy b a 3", []house.Shot{{Name: "s", Line: "l", Tapes: strs("c", "a", "b")}, {Name: "q", Line: "k", Tapes: strs("a", "c")}}},
		{"shot s l a 1; copy b a 1; copy a b 1; copy a b 1; copy b a 1", []house.Shot{{Name: "s", Line: "l", Tapes: strs("a", "b")}}},
		{"shot s l a 1; copy a b 1; undo; copy b c 2", []house.Shot{{Name: "s", Line: "l", Tapes: strs("a")}}},
	} {
		same(t, "the shots after "+x.more, replay(t, after(tapes, x.more)).Shots, x.want)
	}
}

// P10.1: Replay returns the number of the first event with an error.
func TestReplayErrors(t *testing.T) {
	bad := func(l []api.Event, i int, change func(x *api.Event)) []api.Event {
		change(&l[i])
		return l
	}
	for _, x := range []struct {
		what string
		l    []api.Event
		n    int
		e    api.Errno
	}{
		{"1001 events", append(long(1000), event(1001, "undo")), 0, api.ErrMany},
		{"1001 events that are none", make([]api.Event, 1001), 0, api.ErrMany},
		{"1000 events that are none", make([]api.Event, 1000), 1, api.ErrRange},
		{"the last of 1000 events", bad(long(1000), 999, func(x *api.Event) { x.Text = "x" }), 1000, api.ErrForm},
		{"an event by itself before the order", bad(survey(17), 4, func(x *api.Event) { x.Number, x.Text = 9, "x" }), 5, api.ErrForm},
		{"an order", bad(survey(17), 4, func(x *api.Event) { x.Number = 6 }), 5, api.ErrOrder},
		{"a number twice", bad(survey(17), 4, func(x *api.Event) { x.Number = 4 }), 5, api.ErrOrder},
		{"a first number", survey(17)[1:], 1, api.ErrOrder},
		{"an event that is not accepted before one that is none", bad(events("line l 0 1; line l 0 1; line k 0 1"), 2, func(x *api.Event) { x.Kind = "x" }), 2, api.ErrTwice},
		{"an event that is none before one that is not accepted", bad(events("line l 0 1; line l 0 1; line l 0 1"), 1, func(x *api.Event) { x.Kind = "x" }), 2, api.ErrKind},
	} {
		r, n, e := house.Replay(x.l)
		fails(t, "Replay: "+x.what, e, x.e, r)
		same(t, "Replay: "+x.what, n, x.n)
	}
	replay(t, long(1000))
}

// P10.1: Accepts returns the error of Replay, then that of CheckEvent, then ErrMany, and then that with which the event is not accepted.
func TestAcceptsErrors(t *testing.T) {
	none := api.Event{Number: 5, Kind: "undo", Text: "x"}
	for _, x := range []struct {
		what string
		l    []api.Event
		e    api.Event
		want api.Errno
	}{
		{"Replay first", survey(3)[1:], none, api.ErrOrder},
		{"too many events first", make([]api.Event, 1001), none, api.ErrMany},
		{"CheckEvent before the order", survey(3), none, api.ErrForm},
		{"CheckEvent before 1000 events", long(1000), none, api.ErrForm},
		{"a number above 1000", long(1000), event(1001, "undo"), api.ErrRange},
		{"1000 events before the order", long(1000), event(1000, "undo"), api.ErrMany},
		{"999 events", long(999), event(1000, "undo"), api.OK},
		{"999 events, and another number", long(999), event(999, "undo"), api.ErrOrder},
		{"the zero value", nil, api.Event{}, api.ErrRange},
	} {
		same(t, "Accepts: "+x.what, house.Accepts(x.l, x.e), x.want)
	}
}

// P10.1: ErrOrder comes before all other errors of an event that has none by itself.
func TestOrder(t *testing.T) {
	for _, line := range strs("undo", "accept l1 9", "accept l1 0", "line l1 0 99", "shot s l t 9") {
		for _, n := range ints(1, 5, 7, 1000) {
			try(t, line, survey(5), event(n, line), api.ErrOrder)
		}
	}
	try(t, "no events", nil, event(2, "undo"), api.ErrOrder)
	try(t, "after an undo", events("line l 0 1; undo"), event(2, "line l 0 1"), api.ErrOrder)
	try(t, "after an undo", events("line l 0 1; undo"), event(3, "line l 0 1"), api.OK)
}

// P10.1: undo takes back the last event that counts, but no release.
func TestUndo(t *testing.T) {
	tryAll(t, []tries{
		{nil, "", "undo", api.ErrEmpty},
		{nil, "line l 1 1", "undo", api.OK},
		{nil, "line l 1 1; undo", "undo", api.ErrEmpty},
		{nil, "line l 1 1; line k 1 1; undo", "undo", api.OK},
		{nil, "line l 1 1; line k 1 1; undo; undo", "undo", api.ErrEmpty},
		{nil, "line l 1 1; undo", "line l 1 1", api.OK},
		{nil, "line l 7 1; undo", "line l 0 1", api.OK},
		{nil, "line l 2 1; line k 7 1; undo", "tape a 2 1", api.OK},
		{nil, "line l 2 1; line k 7 1; undo", "tape a 1 1", api.ErrState},
		{nil, "line l 2 1; line k 7 1; undo", "accept k 9", api.ErrUnknown},
		{survey(17), "release p1 12", "undo", api.ErrRule},
		{survey(17), "release p1 12; line l2 13 1", "undo", api.OK},
		{survey(17), "release p1 12; line l2 13 1; undo", "undo", api.ErrRule},
		{survey(17), "undo", "undo", api.OK},
		{survey(17), "undo", "picture p2 j1 11", api.OK},
		{survey(17), "undo; undo", "picture p1 j1 12", api.ErrOpen},
	})
	l := survey(17)
	for n := 16; n >= 0; n-- {
		l = after(l, "undo")
		same(t, "the register after undos", replay(t, l), replay(t, survey(n)))
	}
}

// P10.1: ErrState comes next, then ErrUnknown for each name that has to be something, then ErrTwice.
func TestNames(t *testing.T) {
	l := after(survey(17), "line l2 12 1")
	for _, line := range strs("line l1 11 0", "tape a 0 999999999", "shot s1 l9 a 11", "copy x x 11", "accept x 11", "source x x 11", "module x x 11 9", "merge x x x 11", "run j1 x 11 0", "tile x 11 99 1", "fail x 11 99", "picture x x 11", "release x 11") {
		tryAll(t, []tries{{l, "", line, api.ErrState}})
	}
	for _, line := range strs(
		"shot s1 l9 a 12", "shot s1 l2 c 12", "shot x a a 12", "shot x l2 l2 12", "copy c a 12", "copy a c 12", "copy c c 12", "copy l1 l1 12", "accept l9 12", "accept a 12", "accept s1 12",
		"source m1 l9 12", "source m1 m1 12", "module m1 m9 12 9", "module m4 l1 12 1", "merge m1 m1 m9 12", "merge m1 m9 m1 12", "merge m4 m9 m9 12", "run j1 m9 12 0", "run j1 j1 12 99",
		"tile j9 12 0 1", "tile p1 12 0 1", "fail j9 12 0", "fail m1 12 0", "picture p1 j9 12", "picture p1 p1 12", "release p9 12", "release j1 12",
	) {
		tryAll(t, []tries{{l, "", line, api.ErrUnknown}})
	}
	for _, line := range strs(
		"line l1 12 0", "tape a 12 999999999", "shot s1 l1 a 12", "source m3 l1 12", "module m1 m3 12 9", "module m3 m3 12 4", "merge m1 m2 m2 12", "run j1 m1 12 0", "picture p1 j1 12",
	) {
		tryAll(t, []tries{{l, "", line, api.ErrTwice}})
	}
	// things of different kinds may have the same name
	tryAll(t, []tries{
		{nil, "line x 0 1", "tape x 0 1", api.OK}, {nil, "line x 0 1; tape x 0 1", "shot x x x 0", api.OK}, {nil, "line x 0 1; tape x 0 1; shot x x x 0; accept x 0", "source x x 0", api.OK},
		{nil, "line x 0 1; tape x 0 1; shot x x x 0; accept x 0; source x x 0", "run x x 0 1", api.OK}, {nil, "line x 0 1; tape x 0 1; shot x x x 0; accept x 0; source x x 0; run x x 0 1; tile x 0 0 0", "picture x x 0", api.OK},
	})
	// an undone thing is not there any more
	tryAll(t, []tries{{nil, "tape a 0 9; line l 0 1; undo", "shot s l a 0", api.ErrUnknown}, {nil, "line l 0 1; source m l 0; undo", "source m l 0", api.OK}, {nil, "line l 0 1; source m l 0; undo", "module k m 0 1", api.ErrUnknown}})
}

// P10.1: the errors of lines, tapes, shots and copies.
func TestLinesAndTapes(t *testing.T) {
	tapes := events("tape a 1 10; tape b 5 100; line l 5 2; line k 5 1; shot q k b 5; accept k 5")
	tryAll(t, []tries{
		{nil, "", "line l 0 0", api.ErrRange}, {nil, "", "line l 0 65", api.ErrRange}, {nil, "", "line l 0 999999999", api.ErrRange}, {nil, "", "line l 0 1", api.OK}, {nil, "", "line l 999999999 64", api.OK},
		{nil, "", "tape a 999999999 0", api.OK}, {nil, "", "tape a 0 999999999", api.OK}, {nil, "", "tape a 1 999999999", api.ErrLarge}, {nil, "", "tape a 999999999 999999999", api.ErrLarge}, {nil, "", "tape a 500000000 500000000", api.ErrLarge}, {nil, "", "tape a 500000000 499999999", api.OK},
		{tapes, "", "shot s l a 11", api.OK}, {tapes, "", "shot s l a 12", api.ErrFaded}, {tapes, "", "shot s l b 105", api.OK}, {tapes, "", "shot s l b 106", api.ErrFaded}, {tapes, "", "shot s k b 6", api.ErrOver}, {tapes, "", "shot s k a 12", api.ErrOver},
		{nil, "tape a 3 0; line l 3 1", "shot s l a 3", api.OK}, {nil, "tape a 3 0; line l 3 1", "shot s l a 4", api.ErrFaded},
		{tapes, "", "copy a b 11", api.OK}, {tapes, "", "copy a b 12", api.ErrFaded}, {tapes, "", "copy b a 11", api.OK}, {tapes, "", "copy b a 12", api.ErrFaded}, {tapes, "", "copy a a 9", api.ErrConflict}, {tapes, "", "copy a a 12", api.ErrConflict},
		{nil, "tape a 0 9; tape b 0 9", "copy a b 0", api.OK},
	})
}

// P10.1: the errors of accept.
func TestAccept(t *testing.T) {
	l := survey(6)
	tryAll(t, []tries{
		{l, "", "accept l1 105", api.OK}, {l, "", "accept l1 106", api.ErrFaded}, {l, "undo", "accept l1 11", api.OK}, {l, "undo", "accept l1 12", api.ErrFaded},
		{l, "undo; undo", "accept l1 7", api.ErrShort}, {l, "undo; undo", "accept l1 999", api.ErrShort}, {l, "accept l1 9", "accept l1 9", api.ErrOver}, {l, "accept l1 9", "accept l1 999", api.ErrOver},
		{l, "shot s3 l1 b 9", "accept l1 9", api.OK}, {l, "line l2 9 1", "accept l2 9", api.ErrShort}, {l, "line l2 9 1; shot s3 l2 a 9", "accept l1 12", api.OK}, {l, "line l2 9 1; shot s3 l2 a 9", "accept l2 12", api.ErrFaded},
		{nil, "line l1 5 3; tape a 5 9; shot s1 l1 a 5; shot s2 l1 a 5", "accept l1 5", api.ErrShort},
		{nil, "line l1 5 3; tape a 5 9; shot s1 l1 a 5; shot s2 l1 a 5; shot s3 l1 a 5", "accept l1 5", api.OK},
	})
}

// P10.1: the errors of sources, modules and merges.
func TestModules(t *testing.T) {
	l := after(survey(10), "source m5 l1 9; module m6 m5 9 2")
	tryAll(t, []tries{
		{nil, "line l 0 1", "source m l 0", api.OK}, {l, "", "source m7 l1 9", api.OK},
		{l, "", "module m7 m1 9 0", api.ErrKind}, {l, "", "module m7 m1 9 5", api.ErrKind}, {l, "", "module m7 m1 9 999999999", api.ErrKind},
		{l, "", "merge m7 m1 m1 9", api.ErrConflict}, {l, "", "merge m7 m1 m5 9", api.OK}, {l, "", "merge m7 m6 m2 9", api.OK}, {l, "", "merge m7 m3 m2 9", api.ErrShape}, {l, "", "merge m7 m1 m2 9", api.ErrShape}, {l, "", "merge m7 m1 m3 9", api.ErrShape},
		{l, "module m7 m6 9 3", "merge m8 m3 m7 9", api.OK}, {l, "merge m7 m6 m2 9", "module m8 m7 9 3", api.OK}, {l, "merge m7 m6 m2 9", "module m8 m7 9 2", api.ErrShape},
	})
	for i, takes := range ints(1, 1, 2, 3) {
		for _, module := range ints(1, 2, 3) {
			want := api.OK
			if module != takes {
				want = api.ErrShape
			}
			tryAll(t, []tries{{l, "", "module m7 m" + strconv.Itoa(module) + " 9 " + strconv.Itoa(i+1), want}})
		}
	}
}

// P10.1: the errors of jobs, tiles and pictures.
func TestJobs(t *testing.T) {
	open := events("tape a 0 9; line l 0 1; line k 0 1; shot s l a 0; shot q k a 0; source m l 0; source n k 0; merge o m n 0; accept l 0")
	run, done := survey(12), survey(17)
	tryAll(t, []tries{
		{open, "", "run j m 0 1", api.OK}, {open, "", "run j n 0 1", api.ErrOpen}, {open, "", "run j o 0 1", api.ErrOpen}, {open, "", "run j o 0 0", api.ErrOpen}, {open, "accept k 0", "run j o 0 32", api.OK}, {open, "", "run j m 0 0", api.ErrRange}, {open, "", "run j m 0 33", api.ErrRange}, {open, "run i m 0 1", "run j m 0 1", api.OK},
		{run, "", "tile j1 10 0 0", api.OK}, {run, "", "tile j1 10 1 999999999", api.OK}, {run, "", "tile j1 10 2 7", api.ErrTwice}, {run, "", "tile j1 10 3 7", api.ErrRange}, {run, "", "tile j1 10 999999999 7", api.ErrRange}, {run, "fail j1 10 2", "tile j1 10 2 8", api.OK},
		{run, "", "fail j1 10 2", api.OK}, {run, "", "fail j1 10 1", api.ErrNone}, {run, "", "fail j1 10 3", api.ErrRange}, {run, "fail j1 10 2", "fail j1 10 2", api.ErrNone}, {run, "tile j1 10 0 0", "fail j1 10 0", api.OK},
		{run, "", "picture p j1 10", api.ErrOpen}, {run, "tile j1 10 0 0", "picture p j1 10", api.ErrOpen}, {run, "tile j1 10 0 0; tile j1 10 1 0", "picture p j1 10", api.OK},
		{done, "", "tile j1 12 0 1", api.ErrOver}, {done, "", "tile j1 12 3 1", api.ErrOver}, {done, "", "fail j1 12 0", api.ErrOver}, {done, "", "fail j1 12 3", api.ErrOver}, {done, "", "picture p2 j1 12", api.ErrOver},
		{done, "run j2 m3 12 1", "tile j2 12 0 1", api.OK}, {done, "run j2 m3 12 1", "picture p2 j2 12", api.ErrOpen}, {done, "run j2 m3 12 1; tile j2 12 0 1", "picture p2 j2 12", api.OK},
		{done, "", "release p1 12", api.OK}, {done, "release p1 12", "release p1 12", api.ErrOver}, {done, "release p1 12", "tile j1 12 0 1", api.ErrOver},
	})
}

// P10.1: how many lines, tapes, shots, modules, jobs and pictures there may be; ErrMany is the last error.
func TestMany(t *testing.T) {
	all := events("tape t 0 9; line l 0 1; shot s l t 0; accept l 0; source m l 0")
	shots := after(all, "line k 0 64; tape u 0 0; "+lines(63, "shot x%d k t 0"))
	modules := after(all, lines(15, "source x%d l 0")+"; "+lines(16, "module y%d m 0 2"))
	jobs := after(all, lines(16, "run x%d m 0 1"))
	tryAll(t, []tries{
		{nil, lines(15, "line x%d 0 1"), "line l 0 1", api.OK}, {nil, lines(16, "line x%d 0 1"), "line l 0 1", api.ErrMany}, {nil, lines(16, "line x%d 0 1"), "line l 0 65", api.ErrRange}, {nil, lines(16, "line x%d 0 1"), "line x5 0 1", api.ErrTwice},
		{nil, lines(15, "tape x%d 0 1"), "tape l 0 1", api.OK}, {nil, lines(16, "tape x%d 0 1"), "tape l 0 1", api.ErrMany}, {nil, lines(16, "tape x%d 0 1"), "tape l 9 999999999", api.ErrLarge},
		{shots, "", "shot q k t 0", api.ErrMany}, {shots, "", "shot q l t 0", api.ErrOver}, {shots, "", "shot q k u 1", api.ErrFaded}, {shots, "undo", "shot q k t 0", api.OK}, {shots, "", "accept k 0", api.ErrShort},
		{modules, "", "source z l 0", api.ErrMany}, {modules, "", "module z m 0 2", api.ErrMany}, {modules, "", "module z m 0 3", api.ErrShape}, {modules, "", "module z m 0 0", api.ErrKind}, {modules, "", "merge z m x1 0", api.ErrMany}, {modules, "", "merge z m y1 0", api.ErrShape}, {modules, "", "merge z m m 0", api.ErrConflict},
		{modules, "undo", "source z l 0", api.OK}, {modules, "undo", "module z m 0 2", api.OK}, {modules, "undo", "merge z m x1 0", api.OK},
		{jobs, "", "run z m 0 1", api.ErrMany}, {jobs, "", "run z m 0 0", api.ErrRange}, {jobs, "undo", "run z m 0 1", api.OK}, {jobs, "line k 0 1; source n k 0", "run z n 0 1", api.ErrOpen},
		{jobs, lines(16, "tile x%d 0 0 1") + "; " + lines(15, "picture p%d x%d 0"), "picture p x15 0", api.OK},
	})
	same(t, "the events of a line with 64 shots", house.Accepts(after(shots, "undo; undo; line n 0 1; shot y n t 0; shot z n t 0"), event(76, "accept n 0")), api.OK)
}

// P10.1: AsOf.
func TestAsOf(t *testing.T) {
	l := survey(17)
	for _, x := range []struct{ tick, count int }{{0, 0}, {1, 1}, {4, 1}, {5, 3}, {6, 4}, {8, 6}, {9, 10}, {10, 13}, {11, 16}, {12, 17}, {999999999, 17}} {
		r, e := house.AsOf(l, x.tick)
		ok(t, "AsOf", e)
		same(t, "AsOf "+strconv.Itoa(x.tick), r, replay(t, survey(x.count)))
	}
	// what was undone has no part in any register, also at ticks before the undo
	undone := events("line l 3 1; line k 5 1; undo; tape a 4 1; tape b 9 1")
	for tick, want := range map[int]string{2: "", 3: "line l 3 1", 4: "line l 3 1; tape a 4 1", 5: "line l 3 1; tape a 4 1", 9: "line l 3 1; tape a 4 1; tape b 9 1"} {
		r, e := house.AsOf(undone, tick)
		ok(t, "AsOf", e)
		same(t, "AsOf after an undo", r, replay(t, events(want)))
	}
	for _, tick := range outside(0, 999999999) {
		r, e := house.AsOf(l, tick)
		fails(t, "AsOf", e, api.ErrRange, r)
		r, e = house.AsOf(l[1:], tick)
		fails(t, "AsOf of no events", e, api.ErrOrder, r)
	}
	r, e := house.AsOf(make([]api.Event, 1001), 0)
	fails(t, "AsOf of 1001 events", e, api.ErrMany, r)
}

// P10.1: events are accepted, and lead to registers, as the definitions say.
func TestRandomEvents(t *testing.T) {
	r := random(1)
	seen := map[string]int{}
	for range 150 {
		l := r.begin()
		for range 160 {
			x := r.event(l)
			want := errorOf(l, x)
			if got := house.Accepts(l, x); got != want {
				t.Fatalf("Accepts of %v after %v: got %d, want %d", x, l, got, want)
			}
			seen[x.Kind+" "+strconv.Itoa(int(want))]++
			if want == api.OK {
				l = append(l, x)
			}
		}
		same(t, "Replay", replay(t, l), registerOf(counting(l)))
		tick := r.below(tickOf(counting(l)) + 2)
		past, e := house.AsOf(l, tick)
		ok(t, "AsOf", e)
		same(t, "AsOf", past, registerOf(upTo(counting(l), tick)))
	}
	for kind, list := range map[string]string{"undo": "0 12 21", "line": "0 22 9 3", "tape": "0 22 9", "shot": "0 22 10 9 23 30", "copy": "0 22 10 24 30", "accept": "0 22 10 23 16 30", "source": "0 22 10 9", "module": "0 22 10 9 13 2", "merge": "0 22 10 9 24 2", "run": "0 22 10 9 32 3", "tile": "0 22 10 23 3 9", "fail": "0 22 10 23 3 7", "picture": "0 22 10 9 23 32", "release": "0 22 10 23"} {
		for _, e := range strings.Fields(list) {
			if seen[kind+" "+e] == 0 {
				t.Errorf("%s never had the error %s", kind, e)
			}
		}
	}
}
