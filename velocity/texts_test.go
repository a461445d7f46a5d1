package velocity_test

import (
	"math"
	"strings"
	"testing"

	"moveout/api"
	"moveout/velocity"
)

// P6.5: Print and Parse.
func TestTexts(t *testing.T) {
	for s, l := range map[string][]velocity.Pick{
		"":                                  nil,
		"pick 10 4 1\n":                     {pick(10, 4, 1)},
		"pick 10 4 1\npick 20 6 0\n":        {pick(10, 4, 1), pick(20, 6, 0)},
		"pick 1024 1000000000 1000000000\n": {pick(1024, 1000000000, 1000000000)},
	} {
		text, e := velocity.Print(l)
		ok(t, "Print", e)
		same(t, "Print", text, s)
		got, line, e := velocity.Parse(s)
		ok(t, "Parse", e)
		same(t, "Parse", []any{got, line}, []any{l, 0})
	}
}

// P6.5: the errors of Print.
func TestPrintErrors(t *testing.T) {
	for _, x := range badPickLists() {
		s, e := velocity.Print(x.l)
		fails(t, "Print of "+x.what, e, x.e, s)
	}
}

// P6.5: the errors of Parse.
func TestParseErrors(t *testing.T) {
	good := "pick 10 4 1\n"
	for _, x := range []struct {
		e    api.Errno
		line int
		l    []string
	}{
		{api.ErrLong, 0, []string{strings.Repeat("x", 4097), strings.Repeat("\n", 4097), strings.Repeat(good, 342), strings.Repeat(" ", 100000)}},
		{api.ErrSyntax, 0, []string{
			"pick 10 4 1", "\n", " ", " \n", "pick\n", "pick 10\n", "pick 10 4\n", "pick 10 4 1 0\n", "pick 10 4 1 \n", " pick 10 4 1\n", "pick  10 4 1\n", "pick 10  4 1\n", "pick 10 4 \n", "pick\t10 4 1\n", "pick 10 4 1\r\n", "Pick 10 4 1\n", "picks 10 4 1\n", "10 4 1\n", "pic 10 4 1\n", " 10 4 1\n",
			"pick -10 4 1\n", "pick 10 -4 1\n", "pick 10 4 -1\n", "pick 10 4 -0\n", "pick +10 4 1\n", "pick 010 4 1\n", "pick 10 04 1\n", "pick 10 4 01\n", "pick 10 4 00\n", "pick 1_0 4 1\n", "pick 0x1 4 1\n", "pick 1.0 4 1\n", "pick 1e1 4 1\n", "pick x 4 1\n", "pick 10 4 1x\n", "pick 10 4 x1\n", "pick 10 4 \u0661\n", "pick 10 4 \xff\n", "pick 10 4 \x00\n", "pick 10 4 :\n", "pick 10 4 /\n",
			"pick 1 10000000000 0\n", "pick 1 00000000001 0\n", "pick 0000000001 1 0\n", "pick 1 1 99999999999999999999\n", "pick 1 1 18446744073709551617\n",
			"x\n" + good, "pick 10 4 1x\n\n", "\npick 10 4 1", strings.Repeat("x", 4096), strings.Repeat("\n", 4096), strings.Repeat("9", 4096) + "",
		}},
		{api.ErrSyntax, 1, []string{good + "pick 10 4 1", good + "\n", good + " ", good + "pick 0 0\n", "pick 0 0 0\n" + "x\n" + "pick 10 4 1", good + good[:5], "pick 9999999999 0 0\npick 1 1 10000000000\n"}},
		{api.ErrSyntax, 2, []string{good + good + "pick", good + good + "\n" + good}},
		{api.ErrRange, 1, []string{"pick 0 1 0\n", "pick 1025 1 0\n", "pick 1 0 0\n", "pick 1 1000000001 0\n", "pick 1 1 1000000001\n", "pick 1 9999999999 0\n", "pick 9999999999 9999999999 9999999999\n"}},
		{api.ErrOrder, 2, []string{good + good, "pick 2 2 3\npick 1 2 3\n"}},
		{api.ErrRange, 2, []string{good + "pick 5 0 1\n", "pick 0 1 0\n" + good}},
		{api.ErrMany, 65, []string{strings.Repeat(good, 65), strings.Repeat("pick 0 0 0\n", 65)}},
		{api.ErrMany, 341, []string{strings.Repeat(good, 341)}},
	} {
		for _, s := range x.l {
			what := "Parse of " + s[:min(len(s), 40)]
			l, line, e := velocity.Parse(s)
			fails(t, what, e, x.e, l)
			same(t, what+": the line", line, x.line)
		}
	}
}

// P6.5: texts with the most picks, and with the most bytes.
func TestLongTexts(t *testing.T) {
	var l []velocity.Pick
	for i := range 64 {
		l = append(l, pick(i+961, 1000000000, 1000000000))
	}
	s, e := velocity.Print(l)
	ok(t, "Print", e)
	back, line, e := velocity.Parse(s)
	ok(t, "Parse", e)
	same(t, "Parse of 64 picks", []any{back, line}, []any{l, 0})
	s, e = velocity.Print([]velocity.Pick{pick(1, 1, 0), pick(math.MaxInt, 1, 0)})
	fails(t, "Print of the greatest time", e, api.ErrRange, s)
}
