package trace_test

import (
	"strings"
	"testing"

	"moveout/api"
	"moveout/trace"
)

const s1Text = "shot s1\ntrace 0 0 30 40 5 0 0 0 16 32 48\nhole 0 0 60 80 5 1 0 0\ntrace 0 0 0 0 5 2 0 -7 16 -32 1\n"

// P1.6: Print.
func TestPrint(t *testing.T) {
	for _, x := range []struct {
		s    trace.Shot
		want string
	}{
		{s1(), s1Text},
		{hollow(2), "shot hollow\nhole 0 0 0 0 0 0 0 0\nhole 0 0 0 0 0 0 0 0\n"},
		{one(), "shot one\ntrace 0 0 0 0 0 0 0 0\n"},
		{one(minus0, 1024, -1024), "shot one\ntrace 0 0 0 0 0 0 0 0 0 16384 -16384\n"},
		{trace.Shot{Name: "A_9", Traces: []trace.Trace{{Header: [8]int{-100000, 100000, -1, 9, 100000, -999999999, 999999999, 10}, Hole: true}}}, "shot A_9\nhole -100000 100000 -1 9 100000 -999999999 999999999 10\n"},
	} {
		s, e := trace.Print(x.s)
		ok(t, "Print", e)
		same(t, "Print", s, x.want)
	}
	for _, x := range badShots() {
		s, e := trace.Print(x.s)
		same(t, "Print of "+x.what, e, x.e)
		same(t, "Print of "+x.what, s, "")
	}
}

// P1.6: Parse.
func TestParse(t *testing.T) {
	for _, x := range []struct {
		s    string
		want trace.Shot
	}{
		{s1Text, s1()},
		{"shot hollow\nhole 0 0 0 0 0 0 0 0\n", hollow(1)},
		{"shot one\ntrace 0 0 0 0 0 0 0 0\n", one()},
		{"shot one\ntrace 0 0 0 0 0 0 0 0 -16384 16384 -1 0\n", one(-1024, 1024, -0.0625, 0)},
		{"shot one\ntrace 0 0 0 0 0 0 0 0" + strings.Repeat(" 16", 1024) + "\n", one(ones(1024)...)},
	} {
		s, at, e := trace.Parse(x.s)
		ok(t, "Parse", e)
		same(t, "Parse", s, x.want)
		same(t, "the index of Parse", at, 0)
	}
}

// ones returns n times the sample 1.
func ones(n int) []float32 {
	l := make([]float32, n)
	for i := range l {
		l[i] = 1
	}
	return l
}

// refused checks that a text is refused with an index and an error.
func refused(t *testing.T, text string, at int, e api.Errno) {
	t.Helper()
	got, gotAt, gotE := trace.Parse(text)
	name := text[:min(len(text), 60)]
	same(t, "Parse of "+name, [2]int{gotAt, int(gotE)}, [2]int{at, int(e)})
	same(t, "Parse of "+name, got, trace.Shot{})
}

// P1.6: the lines that Parse refuses.
func TestParseSyntax(t *testing.T) {
	const zeros = " 0 0 0 0 0 0 0 0"
	for _, s := range []string{
		"", "\n", "shot", "shot\n", "shot \n", "shot s1", "shot  s1\n", "shot s1 \n", " shot s1\n", "shot s1 s2\n", "Shot s1\n", "shots s1\n", "shot\ts1\n", "\nshot s1\n", "x\n", "trace" + zeros + "\n", "hole" + zeros + "\n", "shot s1\x00trace", "shot\n1\n",
	} {
		refused(t, s, 0, api.ErrSyntax)
	}
	for _, s := range []string{
		"\n", " \n", "x\n", "shot s1\n", "trace\n", "trace" + zeros, "hole" + zeros, "x", "hole" + zeros + " \n", "trace" + zeros + " \n", "trace " + zeros + "\n", " trace" + zeros + "\n", "Trace" + zeros + "\n",
		"trace 0 0 0 0 0 0 0\n", "hole 0 0 0 0 0 0 0\n", "hole" + zeros + " 1\n", "hole\n", "hole" + zeros + "\r\n", "trace" + zeros + "\t1\n",
	} {
		refused(t, "shot s1\n"+s, 1, api.ErrSyntax)
		refused(t, "shot s1\nhole"+zeros+"\n"+s, 2, api.ErrSyntax)
		// a line with an error decides before all that CheckShot would say
		refused(t, "shot 1\nhole 100001 0 0 0 0 0 0 0\n"+s, 2, api.ErrSyntax)
		// and before the lines behind it
		if strings.HasSuffix(s, "\n") {
			refused(t, "shot s1\n"+s+"?", 1, api.ErrSyntax)
		}
	}
	for _, word := range []string{"", "-", "+1", "-0", "00", "01", "-01", "--1", "1-", "1.", "0.5", "1e3", "0x1", "1_0", "a", "1000000000", "-1000000000", "0000000001", "99999999999999999999", "٣", "1\x00", "1\r"} {
		refused(t, "shot s1\ntrace 0 0 0 0 0 0 0 "+word+"\n", 1, api.ErrSyntax)
		refused(t, "shot s1\ntrace"+zeros+" "+word+"\n", 1, api.ErrSyntax)
		refused(t, "shot s1\nhole "+word+" 0 0 0 0 0 0 0\n", 1, api.ErrSyntax)
	}
}

// P1.6: the errors of CheckShot behind all lines.
func TestParseChecks(t *testing.T) {
	const zeros = " 0 0 0 0 0 0 0 0"
	for _, x := range []struct {
		s  string
		at int
		e  api.Errno
	}{
		{"shot s1\n", 1, api.ErrEmpty}, {"shot 1\n", 1, api.ErrName}, {"shot s\t1\n", 1, api.ErrName}, {"shot s1\r\n", 1, api.ErrName}, {"shot \xff\n", 1, api.ErrName}, {"shot " + strings.Repeat("x", 25) + "\nhole" + zeros + "\n", 2, api.ErrName},
		{"shot s1\n" + strings.Repeat("hole"+zeros+"\n", 65), 66, api.ErrMany}, {"shot s1\nhole 100001 0 0 0 0 0 0 0\n", 2, api.ErrRange}, {"shot s1\nhole 0 0 0 0 -1 0 0 0\nhole" + zeros + "\n", 3, api.ErrRange},
		{"shot s1\ntrace" + zeros + " 16385\n", 2, api.ErrRange}, {"shot s1\ntrace" + zeros + " -16385\n", 2, api.ErrRange}, {"shot s1\ntrace" + zeros + " 999999999\n", 2, api.ErrRange}, {"shot s1\ntrace" + zeros + " -999999999\n", 2, api.ErrRange},
		{"shot s1\ntrace" + zeros + strings.Repeat(" 0", 1025) + "\n", 2, api.ErrMany}, {"shot s1\ntrace" + zeros + strings.Repeat(" 16385", 1025) + "\n", 2, api.ErrMany}, {"shot s1\ntrace 0 0 0 0 0 0 0 999999999 1\ntrace" + zeros + "\n", 3, api.ErrShape},
		{"shot s1\ntrace" + zeros + " 1\ntrace" + zeros + " 1 16385\n", 3, api.ErrRange}, {"shot s1\ntrace" + zeros + " 16385\nhole 100001 0 0 0 0 0 0 0\ntrace" + zeros + strings.Repeat(" 0", 1025) + "\n", 4, api.ErrRange},
	} {
		refused(t, x.s, x.at, x.e)
	}
}

// P1.6: the limit of Parse.
func TestParseLong(t *testing.T) {
	refused(t, strings.Repeat("x", 1000001), 0, api.ErrLong)
	refused(t, strings.Repeat("\n", 1000001), 0, api.ErrLong)
	refused(t, strings.Repeat("x", 1000000), 0, api.ErrSyntax)
	rest := "\nhole 0 0 0 0 0 0 0 0\n"
	refused(t, "shot "+strings.Repeat("x", 1000000-5-len(rest))+rest, 2, api.ErrName)
	refused(t, "shot "+strings.Repeat("x", 1000001-5-len(rest))+rest, 0, api.ErrLong)
}
