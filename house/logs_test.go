package house_test

import (
	"slices"
	"strings"
	"testing"

	"moveout/api"
	"moveout/house"
)

// P10.3: Append and Recover of the events of the chapter, and the checksums of example 6.
func TestLogs(t *testing.T) {
	log := ""
	for i, x := range survey(17) {
		longer, e := house.Append(log, x)
		ok(t, "Append", e)
		same(t, "Append", longer, log+recordOf(bodyOf(x)))
		log = longer
		l, n, e := house.Recover(log)
		same(t, "Recover", []any{l, n, e}, []any{survey(i + 1), len(log), api.OK})
	}
	for s, want := range map[string]string{"": "0000001", "1": "0000388", "11": "0131581"} {
		same(t, "the checksum of the tests", checksumOf(s), want)
		_, _, e := house.Recover(s + "#" + want + "\n")
		same(t, "Recover of what is no body", e, api.ErrSyntax)
	}
	l, n, e := house.Recover("")
	same(t, "Recover of nothing", []any{l, n, e}, []any{[]api.Event(nil), 0, api.OK})
	first, e := house.Append("", api.Event{Number: 1, Kind: "undo"})
	same(t, "Append of an undo", []any{first, e}, []any{"1 undo#" + checksumOf("1 undo") + "\n", api.OK})
}

// P10.3: a log has any events with their numbers, also those that are not accepted.
func TestLogsOfOtherEvents(t *testing.T) {
	l := events("undo; accept l 7; tile j 0 999999999 0; line Z_9abcdefghijklmnopqrstu 3 0; line Z_9abcdefghijklmnopqrstu 1 0; merge a a a 999999999")
	for kind, n := range shapes {
		x := shaped(kind, n[0], n[1])
		x.Number = len(l) + 1
		l = append(l, x)
	}
	comesBack(t, l)
}

// comesBack checks the log to which events are appended, and that they come back from it; it returns the log.
func comesBack(t *testing.T, l []api.Event) string {
	t.Helper()
	log := ""
	for _, x := range l {
		longer, e := house.Append(log, x)
		ok(t, "Append", e)
		log = longer
	}
	same(t, "the log", log, logOf(l))
	back, n, e := house.Recover(log)
	same(t, "Recover", []any{back, n, e}, []any{l, len(log), api.OK})
	return log
}

// P10.3: a log of 1000 events, and no longer one.
func TestLongestLog(t *testing.T) {
	log := logOf(long(999))
	log, e := house.Append(log, event(1000, "accept l 1"))
	ok(t, "Append", e)
	l, n, e := house.Recover(log)
	same(t, "Recover", []any{len(l), n, e}, []any{1000, len(log), api.OK})
	for line, want := range map[string]api.Errno{recordOf("1001 undo"): api.ErrSyntax, recordOf("1000 undo"): api.ErrOrder, "1001": api.ErrTorn} {
		l, n, e = house.Recover(log + line)
		same(t, "Recover of "+line, []any{len(l), n, e}, []any{1000, len(log), want})
	}
	for number, want := range map[int]api.Errno{1001: api.ErrRange, 1000: api.ErrOrder, 1: api.ErrOrder} {
		s, e := house.Append(log, event(number, "undo"))
		fails(t, "Append", e, want, s)
	}
}

// P10.3: the errors of Recover, of the first line behind a log.
func TestRecoverErrors(t *testing.T) {
	digits := "1 undo#" + checksumOf("1 undo")
	for want, l := range map[api.Errno][]string{
		api.ErrTorn: strs("1", "1 undo", "1 undo#", digits, digits[:len(digits)-1], digits+" ", "x", "#0000001", " ", "\x00", "\xff", strings.Repeat("1", 999000)),
		api.ErrSyntax: strs(
			"\n", "\n\n", "1\n", "x\n", "1 undo\n", "1 undo#\n", digits[:len(digits)-1]+"\n", digits+"1\n", digits+" \n", digits+"\r\n", strings.Replace(digits, "#", "", 1)+"\n", strings.Replace(digits, "#", " ", 1)+"\n", digits+"#\n",
			"0000001\n", "1234567\n", "12345678\n", "1#0000388x\n", "1#000388\n", "1#00000388\n", "1#000038a\n", "1#+000388\n", "1#-000388\n", "1#000 388\n", "1#000038\u0668\n", "1#00003\u0668\n", "1 undo#00003\xff8\n", "1#00003/8\n", "1#00003:8\n", "\u0661undo##12345\n", "undo\n"+digits+"\n",
			recordOf(""), recordOf(" "), recordOf("1"), recordOf("1 "), recordOf("1 undo "), recordOf(" 1 undo"), recordOf("1  undo"), recordOf("1 undo 1"), recordOf("1 undo a"), recordOf("undo"), recordOf("undo 1"), recordOf("1 Undo"), recordOf("1 note"), recordOf("1\tundo"), recordOf("1 undo#"), recordOf("1 undo#0000001"), recordOf("1 undo\r"),
			recordOf("0 undo"), recordOf("1001 undo"), recordOf("01 undo"), recordOf("+1 undo"), recordOf("-1 undo"), recordOf("x undo"), recordOf("1.0 undo"), recordOf("1e0 undo"), recordOf("\u0661 undo"), recordOf("1000000000 undo"), recordOf("0000000001 undo"), recordOf("18446744073709551617 undo"), recordOf("2001 line l 0 1"),
			recordOf("1 line l 0"), recordOf("1 line l 0 1 2"), recordOf("1 line 0 1"), recordOf("1 line l k 0 1"), recordOf("1 line 0 1 l"), recordOf("1 line  0 1"), recordOf("1 line l 0 "), recordOf("1 line l  1"), recordOf("1 line 1 0 1"), recordOf("1 line l_ 00 1"), recordOf("1 line l 0 01"), recordOf("1 line l 0 -0"), recordOf("1 line l 0 -1"), recordOf("1 line l 0 +1"), recordOf("1 line l 0 1000000000"), recordOf("1 line l 0 1x"), recordOf("1 line l 0x0 1"),
			recordOf("1 line l- 0 1"), recordOf("1 line \u00e4 0 1"), recordOf("1 line abcdefghijklmnopqrstuvwxy 0 1"), recordOf("1 line _ 0 1"), recordOf("1 line l# 0 1"), recordOf("1 tile j 0 1"), recordOf("1 merge a b 0"),
			recordOf(strings.Repeat("x", 999000)), strings.Repeat("x", 999000)+"\n", strings.Repeat("\n", 999000), recordOf("1 note")+"1",
		),
		api.ErrCheck: strs("1#0000389\n", "1 undo#0000001\n", "#0000000\n", "#0000002\n", "x#1234567\n", "##0000001\n", "1 undo#9999749\n", "1 undo#"+checksumOf("1 undo ")+"\n", "2 undo#"+checksumOf("1 undo")+"\n", strings.Repeat("x", 999000)+"#0000001\n", "\u0661undo#1234567\n", "2 line l 0#0000001\n1"),
		api.ErrOrder: strs(recordOf("2 undo"), recordOf("1000 undo"), recordOf("2 line l 0 1"), recordOf("3 undo")+recordOf("1 undo"), recordOf("999 tile j 0 0 0")+"x"),
	} {
		for _, s := range l {
			what := "Recover of " + s[:min(len(s), 40)]
			got, n, e := house.Recover(s)
			same(t, what, []any{len(got), n, e}, []any{0, 0, want})
			longer, e := house.Append(s, event(1, "undo"))
			fails(t, "Append to what is no log", e, want, longer)
			log := logOf(survey(3))
			got, n, e = house.Recover(log + s)
			same(t, what+" behind a log", []any{got, n, e}, []any{survey(3), len(log), want})
		}
	}
	for _, n := range ints(1, 2, 3, 5, 6, 1000) {
		log := logOf(survey(3))
		got, at, e := house.Recover(log + recordOf(bodyOf(event(n, "undo"))) + "x")
		same(t, "Recover of another number", []any{got, at, e}, []any{survey(3), len(log), api.ErrOrder})
	}
	for _, s := range strs(strings.Repeat("x", 1000001), strings.Repeat("\n", 1000001), logOf(survey(17))+strings.Repeat("x", 1000000), strings.Repeat("1", 3000000)) {
		got, n, e := house.Recover(s)
		fails(t, "Recover", e, api.ErrLong, got, n)
		longer, e := house.Append(s, api.Event{})
		fails(t, "Append", e, api.ErrLong, longer)
	}
	s := logOf(survey(17)) + strings.Repeat("x", 1000000)
	got, n, e := house.Recover(s[:1000000])
	same(t, "Recover of as many bytes as there may be", []any{got, n, e}, []any{survey(17), len(logOf(survey(17))), api.ErrTorn})
}

// P10.3: the errors of Append, in their order.
func TestAppendErrors(t *testing.T) {
	log := logOf(survey(3))
	for _, x := range badEvents() {
		s, e := house.Append(log, x.x)
		fails(t, "Append: "+x.what, e, x.e, s)
		s, e = house.Append(log+"x", x.x)
		fails(t, "Append to a torn log: "+x.what, e, api.ErrTorn, s)
	}
	for _, n := range ints(1, 2, 3, 5, 1000) {
		s, e := house.Append(log, event(n, "undo"))
		fails(t, "Append", e, api.ErrOrder, s)
		s, e = house.Append(log+"1#0000389\n", event(n, "undo"))
		fails(t, "Append to no log", e, api.ErrCheck, s)
	}
	s, e := house.Append("", event(2, "undo"))
	fails(t, "Append to nothing", e, api.ErrOrder, s)
}

// P10.3: events come back from their logs.
func TestRandomLogs(t *testing.T) {
	r := random(3)
	for range 60 {
		l := r.house(60)
		log := comesBack(t, l)
		ends := slices.Sorted(slices.Values(ints(0, r.below(len(log)+1), r.below(len(log)+1))))
		for _, at := range ends {
			back, n, e := house.Recover(log[:at])
			whole := strings.LastIndex(log[:at], "\n") + 1
			want := api.ErrTorn
			if whole == at {
				want = api.OK
			}
			same(t, "Recover of the begin of a log", []any{back, n, e}, []any{l[:strings.Count(log[:at], "\n")], whole, want})
		}
	}
}
