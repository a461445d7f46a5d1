package survey_test

import (
	"strings"
	"testing"

	"moveout/api"
	"moveout/survey"
)

// P9.5: Print and Parse.
func TestTexts(t *testing.T) {
	for s, l := range map[string][]survey.Entry{
		"": nil,
		"0 8 animal\n8 9 shoot\n9 10 weather\n10 12 shoot\n": day(),
		"99999 100000 gear\n":                                entries(entry(99999, 100000, "gear")),
		"0 10 turn\n10 100 turn\n1000 2000 share\n":          entries(entry(0, 10, "turn"), entry(10, 100, "turn"), entry(1000, 2000, "share")),
	} {
		text, e := survey.Print(l)
		ok(t, "Print", e)
		same(t, "Print", text, s)
		got, line, e := survey.Parse(s)
		ok(t, "Parse", e)
		same(t, "Parse", []any{got, line}, []any{l, 0})
	}
}

// P9.5: the errors of Print.
func TestPrintErrors(t *testing.T) {
	for _, x := range badEntries() {
		s, e := survey.Print(x.x)
		fails(t, "Print of "+x.what, e, x.e, s)
	}
}

// P9.5: the errors of Parse.
func TestParseErrors(t *testing.T) {
	line := "0 8 turn\n"
	for _, x := range []struct {
		e    api.Errno
		line int
		l    []string
	}{
		{api.ErrLong, 0, []string{strings.Repeat("x", 4097), strings.Repeat("\n", 4097), strings.Repeat(line, 456), line + strings.Repeat(" ", 4088), strings.Repeat("9", 1000000)}},
		{api.ErrSyntax, 0, []string{
			"\n", " ", " \n", "0", "0\n", "0 8\n", "0 8", "0 8 turn", "0 8 \n", "0 8 turn \n", " 0 8 turn\n", "0  8 turn\n", "0 8  turn\n", "0 8 turn turn\n", "0 8 turn 9\n", "0\t8 turn\n", "turn 0 8\n", "0 turn 8\n", "  turn\n", " 8 turn\n", "0  turn\n", "8 turn\n", "turn\n", "\r\n",
			"-1 8 turn\n", "0 -8 turn\n", "-0 8 turn\n", "0 -0 turn\n", "+0 8 turn\n", "0 +8 turn\n", "00 8 turn\n", "0 08 turn\n", "0 00 turn\n", "01 8 turn\n", "0 1_0 turn\n", "0x0 8 turn\n", "0 8.0 turn\n", "0 1e1 turn\n", "x 8 turn\n", "0 x turn\n", "0 8x turn\n", "0 x8 turn\n", "0 \u0668 turn\n", "\xff 8 turn\n", "0 \x00 turn\n", "0 : turn\n", "/ 8 turn\n",
			"0 1000000000 turn\n", "1000000000 1000000001 turn\n", "0 0000000008 turn\n", "0 99999999999999999999 turn\n", "0 18446744073709551624 turn\n",
			"x\n" + line, "\n" + line, strings.Repeat("x", 4096), strings.Repeat("\n", 4096), strings.Repeat("9", 4096), strings.Repeat(" ", 4096),
		}},
		{api.ErrSyntax, 1, []string{line + "8 9", line + "8 9\n", line + "\n", line + " ", line + "8 9 turn", line + "8 9 turn 1\n", line + "8 9 \n", line + "x 9 turn\n" + line, line + "\n\n", line + line[:8]}},
		{api.ErrSyntax, 2, []string{line + line + "x", line + "3 3 rest\n" + "9", "5 1 rest\n0 0 x\n-1 0 x\n"}},
		// a wrong line comes before all other errors
		{api.ErrSyntax, 65, []string{strings.Repeat(line, 65) + "x"}},
		{api.ErrSpan, 1, []string{"0 0 turn\n", "8 7 turn\n", "3 3 rest\n", "0 100001 turn\n", "100000 100001 turn\n", "999999999 999999999 x\n", "0 999999999 turn\n"}},
		{api.ErrSpan, 2, []string{"0 0 turn\n" + line, line + "8 8 turn\n", line + "7 7 x\n", line + "8 100001 turn\n"}},
		{api.ErrKind, 1, []string{"0 8 rest\n", "0 8 Turn\n", "0 8 turn\r\n", "0 8 x\n", "0 8 \xff\n", "0 8 turn\x00\n", "0 8 9\n", "0 100000 " + strings.Repeat("x", 4086) + "\n"}},
		{api.ErrKind, 2, []string{line + "0 9 rest\n", line + "8 9 turns\n", "0 8 rest\n" + line}},
		{api.ErrOrder, 2, []string{line + line, line + "7 9 turn\n", "9 10 turn\n" + line}},
		{api.ErrOrder, 3, []string{line + line + "0 0 x\n", line + "8 9 turn\n" + "8 10 turn\n"}},
		{api.ErrMany, 65, []string{strings.Repeat(line, 65), strings.Repeat("0 0 x\n", 65)}},
		{api.ErrMany, 682, []string{strings.Repeat("0 0 x\n", 682)}},
	} {
		for _, s := range x.l {
			what := "Parse of " + s[:min(len(s), 40)]
			l, line, e := survey.Parse(s)
			fails(t, what, e, x.e, l)
			same(t, what+": the line", line, x.line)
		}
	}
}

// P9.5: a text of as many entries as there may be is printed and parsed.
func TestLongestText(t *testing.T) {
	l := each(64)
	for i := range l {
		l[i].Span.From += 100000 - 64
		l[i].Span.To += 100000 - 64
	}
	s, e := survey.Print(l)
	ok(t, "Print", e)
	same(t, "the lines", strings.Count(s, "\n"), 64)
	got, line, e := survey.Parse(s)
	ok(t, "Parse", e)
	same(t, "Parse", []any{got, line}, []any{l, 0})
}
