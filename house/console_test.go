package house_test

import (
	"strconv"
	"strings"
	"testing"

	"moveout/api"
	"moveout/house"
)

// do checks the result of a line, or its error, and that an error changes nothing.
func do(t *testing.T, s *house.Session, line, want string, e api.Errno) {
	t.Helper()
	before := s.Log()
	got, bad := s.Do(line)
	what := "Do " + line[:min(len(line), 40)]
	same(t, what, []any{got, bad}, []any{want, e})
	if bad != api.OK && s.Log() != before {
		t.Errorf("%s: the error changed the log", what)
	}
}

// P10.4: a session of the events of the chapter, with all questions.
func TestConsole(t *testing.T) {
	s := house.New()
	for i, x := range survey(17) {
		do(t, s, lineOf(x), "done "+strconv.Itoa(i+1), api.OK)
		same(t, "Events", s.Events(), survey(i+1))
		same(t, "Log", s.Log(), logOf(survey(i+1)))
	}
	for _, x := range [][]string{
		{"released", "none"}, {"unsafe", "none"}, {"left j1", "none"}, {"from p1", "s1 s2"}, {"lines m3", "l1"}, {"tapes s1", "a b"}, {"tapes s2", "b"}, {"want l1", "2 2 accepted"},
		{"undo", "done 18"}, {"picture p2 j1 106", "done 19"}, {"unsafe", "s1 s2"}, {"released", "none"}, {"release p2 106", "done 20"}, {"released", "p2 529174"}, {"from p2", "s1 s2"},
	} {
		do(t, s, x[0], x[1], api.OK)
	}
	do(t, s, "from p1", "", api.ErrUnknown)
	same(t, "Events", s.Events(), after(survey(17), "undo; picture p2 j1 106; release p2 106"))
}

// P10.4: a session without events.
func TestNew(t *testing.T) {
	for _, s := range []*house.Session{house.New(), {}} {
		same(t, "Events", s.Events(), []api.Event(nil))
		same(t, "Log", s.Log(), "")
		do(t, s, "unsafe", "none", api.OK)
		do(t, s, "released", "none", api.OK)
		do(t, s, "undo", "", api.ErrEmpty)
		for _, line := range strs("left j1", "from p1", "lines m1", "tapes s1", "want l1", "accept l1 0") {
			do(t, s, line, "", api.ErrUnknown)
		}
		do(t, s, "line l1 0 3", "done 1", api.OK)
		do(t, s, "want l1", "0 3 open", api.OK)
	}
	a, b := house.New(), house.New()
	do(t, a, "line l1 0 3", "done 1", api.OK)
	do(t, b, "want l1", "", api.ErrUnknown)
}

// P10.4: the results of questions with several words.
func TestAnswers(t *testing.T) {
	s := opened(t, events("tape a 0 9; tape b 0 9; line k 0 3; line l 0 1; shot z l b 0; shot y k b 0; shot x l a 0; copy b a 1; accept l 1; source n l 1; source m k 1; merge o m n 1; run i n 1 12; run j n 1 1; run h n 1 1; tile j 1 0 999999999; tile h 1 0 0; picture q j 2; picture p h 2; tile i 2 3 0"))
	for _, x := range [][]string{
		{"tapes z", "b a"}, {"tapes x", "a"}, {"want k", "1 3 open"}, {"want l", "2 1 accepted"}, {"lines o", "k l"}, {"lines n", "l"}, {"left i", "0 1 2 4 5 6 7 8 9 10 11"}, {"left j", "none"}, {"from p", "z x"}, {"unsafe", "none"},
		{"release p 3", "done 21"}, {"released", "p 257"}, {"release q 3", "done 22"}, {"released", "q 10144689 p 257"}, {"tape c 10 0", "done 23"}, {"unsafe", "z y x"}, {"undo", "done 24"}, {"unsafe", "none"},
	} {
		do(t, s, x[0], x[1], api.OK)
	}
	do(t, s, "undo", "", api.ErrRule)
}

// P10.4: the first errors of a line.
func TestDoErrors(t *testing.T) {
	s := opened(t, survey(17))
	for want, l := range map[api.Errno][]string{
		api.ErrLong: strs(strings.Repeat("x", 4097), strings.Repeat(" ", 4097), "undo"+strings.Repeat(" ", 4093), "line "+strings.Repeat("l", 4092), strings.Repeat("x", 1000000)),
		api.ErrKind: strs(" ", "  ", " undo", " unsafe", "x", "show", "Undo", "UNSAFE", "undos", "und", "unsafe\n", "undo\n", "undo\tx", "left\tj1", "events", "log", "note x", "1 undo", "18 undo", "lines\u00a0m1", "\x00", "\xff", strings.Repeat("x", 4096), strings.Repeat(" ", 4096), "none", "safe s1 1", "tapes\r"),
		api.ErrSyntax: strs("",
			"undo ", "undo x", "undo 1", "undo  ", "line", "line ", "line l", "line l 12", "line l 12 ", "line l 12 1 ", "line l 12 1 1", "line  12 1", "line  l 12 1", "line l  12 1", "line l 12  1", "line l k 12", "line l k 12 1", "accept", "accept l1", "accept 12", "accept  12", "accept l1 12 1", "accept l1 l1", "merge a b c", "merge a b 12", "shot s l1 12", "shot s l1  12", "shot s l1 a 12 1", "tile j1 12 0", "tile j1 12 0 1 2",
			"line l 012 1", "line l 12 01", "line l +12 1", "line l -0 1", "line l 12 -1", "line l 12 1000000000", "line l 0000000012 1", "line l 12 1.0", "line l 12 1e0", "line l x 1", "line l 12 x", "line l 12 \u0661", "line l 12 1\n", "line l 12 1\t", "line l\t12 1", "line l 99999999999999999999 1", "accept l9 00", "line l_ 12 1_0", "line l 12 /", "line l 12 :",
			"unsafe ", "unsafe x", "unsafe  ", "released ", "released x", "left", "left ", "left  ", "left j1 ", "left j1 j1", "left  j1", "left j9 x", "from", "from ", "from p1 x", "lines", "lines  ", "lines m1 m1", "tapes", "tapes ", "tapes s1 s2", "want", "want ", "want l1 l1", "want l1 ",
		),
		api.ErrUnknown: strs("left j9", "left m1", "left p1", "left \n", "left j1\n", "left #", "from p9", "from j1", "from l1", "lines m9", "lines l1", "lines j1", "tapes s9", "tapes a", "tapes l1", "want l9", "want s1", "want m1", "want \xff", "left J1"),
		api.ErrName:    strs("line 1 12 1", "line l- 12 0", "line l\n 12 1", "line \xff 12 1", "accept 9 12", "accept l# 12", "shot s l1 7 12", "shot 1 l9 a 12", "merge a b _ 12", "line abcdefghijklmnopqrstuvwxy 12 1", "tile 1 12 0 0", "tape 1 109 5"),
	} {
		for _, line := range l {
			do(t, s, line, "", want)
		}
	}
	same(t, "Events", s.Events(), survey(17))
	do(t, s, "line Z_9abcdefghijklmnopqrstu 12 1", "done 18", api.OK)
	do(t, s, "line l "+strings.Repeat("9", 4089), "", api.ErrSyntax)
}

// P10.4: 1000 events.
func TestFullSession(t *testing.T) {
	s := opened(t, long(999))
	do(t, s, "line l 1 1", "done 1000", api.OK)
	for line, want := range map[string]api.Errno{"undo": api.ErrMany, "line l 1 1": api.ErrMany, "accept 1 1": api.ErrMany, "line": api.ErrSyntax, "undo ": api.ErrSyntax, "left j": api.ErrUnknown, "x": api.ErrKind} {
		do(t, s, line, "", want)
	}
	do(t, s, "want l", "0 1 open", api.OK)
	do(t, s, "unsafe", "none", api.OK)
	same(t, "Events", len(s.Events()), 1000)
	do(t, opened(t, events(logLines(s))), "undo", "", api.ErrMany)
}

// logLines returns the lines of the console that lead to a session.
func logLines(s *house.Session) string {
	var l []string
	for _, x := range s.Events() {
		l = append(l, lineOf(x))
	}
	return strings.Join(l, "; ")
}

// P10.4: Open.
func TestOpen(t *testing.T) {
	for count := range 18 {
		log := logOf(survey(count))
		for _, torn := range strs("", "x", "1", "#0000001", recordOf("1 undo")[:8], strings.Repeat("x", 900000)) {
			s, e := house.Open(log + torn)
			ok(t, "Open", e)
			same(t, "Events", s.Events(), survey(count))
			same(t, "Log", s.Log(), log)
			do(t, s, "line l9 99 1", "done "+strconv.Itoa(count+1), api.OK)
		}
	}
	state := after(survey(17), "line l2 1 1")
	for what, x := range map[string]struct {
		log string
		e   api.Errno
	}{
		"a long log": {strings.Repeat("x", 1000001), api.ErrLong}, "a line": {logOf(survey(3)) + "x\n", api.ErrSyntax}, "a checksum": {"1#0000389\n", api.ErrCheck}, "an order": {logOf(survey(3)) + recordOf("3 undo"), api.ErrOrder},
		"an event that is not accepted": {logOf(state), api.ErrState}, "such an event before a torn record": {logOf(state) + "x", api.ErrState}, "such an event before a line": {logOf(state) + "x\n", api.ErrSyntax}, "an undo of nothing": {recordOf("1 undo"), api.ErrEmpty},
	} {
		s, e := house.Open(x.log)
		if e != x.e || s != nil {
			t.Errorf("Open of %s: got the error %d, want %d", what, e, x.e)
		}
	}
}

// P10.4: a nil session.
func TestNilSession(t *testing.T) {
	var s *house.Session
	for _, line := range strs("undo", "", "unsafe", "x", "left", strings.Repeat("x", 5000), "line l 0 1") {
		got, e := s.Do(line)
		fails(t, "Do of a nil session", e, api.ErrState, got)
	}
	same(t, "a nil session", []any{s.Events(), s.Log()}, []any{[]api.Event(nil), ""})
}

// P10.4: a session does what the definitions say.
func TestRandomSessions(t *testing.T) {
	r := random(4)
	for range 30 {
		l := r.begin()
		s := opened(t, l)
		for range 120 {
			x := r.event(l)
			if want := errorOf(l, x); want == api.OK {
				do(t, s, lineOf(x), "done "+strconv.Itoa(x.Number), api.OK)
				l = append(l, x)
			} else {
				do(t, s, lineOf(x), "", want)
			}
			ask(t, s, l, r.below(4))
		}
		same(t, "Events", s.Events(), l)
		same(t, "Log", s.Log(), logOf(l))
	}
}

// ask asks a session with some events all questions of the thing with a number of each kind.
func ask(t *testing.T, s *house.Session, l []api.Event, i int) {
	t.Helper()
	c := counting(l)
	var shots, released []string
	for _, x := range of(c, "shot") {
		shots = append(shots, x.Names[0])
	}
	for _, x := range registerOf(c).Pictures {
		if x.Released {
			released = append(released, x.Name, strconv.Itoa(x.Digest))
		}
	}
	do(t, s, "unsafe", answerOf(unsafeOf(c, shots, tickOf(c))), api.OK)
	do(t, s, "released", answerOf(released), api.OK)
	n := strconv.Itoa(i)
	for _, x := range []struct {
		kind, line string
		answer     func(name string) []string
	}{
		{"run", "left j" + n, func(name string) []string { return decimals(leftOf(c, name)) }},
		{"picture", "from p" + n, func(name string) []string { return fromOf(c, name) }},
		{"module", "lines m" + n, func(name string) []string { return linesOf(c, name) }},
		{"shot", "tapes s" + n, func(name string) []string { return tapesOf(c, name) }},
		{"line", "want l" + n, func(name string) []string {
			state := map[bool]string{true: "accepted", false: "open"}[isDone(c, "accept", name)]
			return append(decimals(ints(len(shotsOf(c, name)), must(c, "line", name).Values[1])), state)
		}},
	} {
		_, name, _ := strings.Cut(x.line, " ")
		if _, is := madeBy(c, x.kind, name); is {
			do(t, s, x.line, answerOf(x.answer(name)), api.OK)
		} else {
			do(t, s, x.line, "", api.ErrUnknown)
		}
	}
}

// decimals returns integers as words.
func decimals(l []int) []string {
	var out []string
	for _, n := range l {
		out = append(out, strconv.Itoa(n))
	}
	return out
}
