package horizon_test

import (
	"strings"
	"testing"

	"moveout/api"
	"moveout/horizon"
)

// P8.1: Print and Parse.
func TestTexts(t *testing.T) {
	for s, l := range map[string][]horizon.Horizon{
		"": nil,
		"horizon base 0\npick 1 104\npick 6 104\n":                                                    list(base()),
		"horizon base 0\npick 1 104\npick 6 104\nhorizon u 1\npick 0 10\n":                            list(base(), named("u", 1, 0, 10)),
		"horizon pick 1000\npick 255 100000\nhorizon horizon 10\npick 0 0\npick 10 10\npick 100 99\n": list(named("pick", 1000, 255, 100000), named("horizon", 10, 0, 0, 10, 10, 100, 99)),
	} {
		text, e := horizon.Print(l)
		ok(t, "Print", e)
		same(t, "Print", text, s)
		got, line, e := horizon.Parse(s)
		ok(t, "Parse", e)
		same(t, "Parse", []any{got, line}, []any{l, 0})
	}
}

// P8.1: the errors of Print.
func TestPrintErrors(t *testing.T) {
	for _, x := range badLists() {
		s, e := horizon.Print(x.l)
		fails(t, "Print of "+x.what, e, x.e, s)
	}
}

// P8.1: the errors of Parse.
func TestParseErrors(t *testing.T) {
	head, pick := "horizon a 0\n", "pick 1 2\n"
	for _, x := range []struct {
		e    api.Errno
		line int
		l    []string
	}{
		{api.ErrLong, 0, []string{strings.Repeat("x", 1000001), strings.Repeat("\n", 1000001), head + strings.Repeat(pick, 111111), strings.Repeat(" ", 2000000)}},
		{api.ErrSyntax, 0, []string{
			"\n", " ", " \n", "horizon", "horizon\n", "horizon a\n", "horizon a 0", "horizon a 0 0\n", "horizon a 0 \n", " horizon a 0\n", "horizon  a 0\n", "horizon a  0\n", "horizon  0\n", "horizon 0\n", "horizon a \n", "horizon\ta 0\n", "horizon a 0\r\n", "Horizon a 0\n", "horizons a 0\n", "a 0\n", " a 0\n",
			"horizon a -1\n", "horizon a -0\n", "horizon a +1\n", "horizon a 00\n", "horizon a 01\n", "horizon a 1_0\n", "horizon a 0x1\n", "horizon a 1.0\n", "horizon a 1e1\n", "horizon a x\n", "horizon a 1x\n", "horizon a x1\n", "horizon a \u0661\n", "horizon a \xff\n", "horizon a \x00\n", "horizon a :\n", "horizon a /\n",
			"horizon a 1000000000\n", "horizon a 0000000001\n", "horizon a 99999999999999999999\n", "horizon a 18446744073709551617\n",
			pick, "pick\n", pick + head, "pick 1 2", "pick x 2\n" + head, "x\n" + head + pick, "\n" + head + pick, "\r\n", strings.Repeat("x", 1000000), strings.Repeat("\n", 1000000), strings.Repeat(pick, 100000), strings.Repeat("9", 1000000),
		}},
		{api.ErrSyntax, 1, []string{
			head + "pick 1 2", head + "pick", head + "pick\n", head + "pick 1\n", head + "pick 1 2 3\n", head + "pick 1 2 \n", head + " pick 1 2\n", head + "pick  1 2\n", head + "pick 1  2\n", head + "pick  2\n", head + "pick 1 \n", head + "pick\t1 2\n", head + "pick 1 2\r\n", head + "Pick 1 2\n", head + "picks 1 2\n", head + "1 2\n", head + " 1 2\n",
			head + "pick -1 2\n", head + "pick 1 -2\n", head + "pick -0 2\n", head + "pick 1 -0\n", head + "pick +1 2\n", head + "pick 01 2\n", head + "pick 1 02\n", head + "pick 00 2\n", head + "pick 1 00\n", head + "pick x 2\n", head + "pick 1 x\n", head + "pick 1 2x\n", head + "pick 1 \u0662\n", head + "pick 1000000000 2\n", head + "pick 1 1000000000\n", head + "pick 1 0000000002\n",
			head + "\n", head + " ", head + "x\n" + pick, head + "\n" + pick, head + "horizon b\n", head + "horizon b 0", head + "pick a 0\n",
		}},
		{api.ErrSyntax, 2, []string{head + pick + "pick", head + pick + "\n", head + pick + "pick 2 3", head + pick + "horizon b 0", head + pick + "horizon b\n", head + pick + "pick 1 2 3\n", head + head + "x"}},
		// a wrong line comes before all other errors
		{api.ErrSyntax, 3, []string{"horizon 9 1001\npick 256 1\npick 1 100001\npick\n", head + head + head + "pick 1 x\n"}},
		{api.ErrSyntax, 9, []string{strings.Repeat(head, 9) + "x"}},
		{api.ErrName, 1, []string{"horizon 1 0\n", "horizon a-b 0\n", "horizon \xff 0\n", "horizon a\r 0\n", "horizon _ 999999999\n", "horizon " + strings.Repeat("a", 25) + " 0\n"}},
		{api.ErrName, 2, []string{"horizon \u00e4 0\n" + pick, "horizon \x00 0\npick 999999999 999999999\n"}},
		{api.ErrRange, 1, []string{"horizon a 1001\n", "horizon a 999999999\n"}},
		{api.ErrRange, 2, []string{"horizon a 1001\n" + pick, head + "pick 256 2\n", head + "pick 1 100001\n", head + "pick 999999999 0\n"}},
		{api.ErrEmpty, 1, []string{head}},
		{api.ErrEmpty, 2, []string{head + head}},
		{api.ErrEmpty, 3, []string{head + pick + "horizon b 0\n", head + "horizon b 0\n" + pick}},
		{api.ErrOrder, 3, []string{head + pick + pick, head + pick + "pick 0 2\n"}},
		{api.ErrTwice, 4, []string{head + pick + head + pick}},
		{api.ErrMany, 9, []string{strings.Repeat(head, 9)}},
		{api.ErrMany, 18, []string{strings.Repeat(head+pick, 9)}},
		{api.ErrMany, 258, []string{head + strings.Repeat(pick, 257)}},
		{api.ErrMany, 83333, []string{strings.Repeat(head, 83333)}},
		{api.ErrMany, 111110, []string{head + strings.Repeat(pick, 111109)}},
	} {
		for _, s := range x.l {
			what := "Parse of " + s[:min(len(s), 40)]
			l, line, e := horizon.Parse(s)
			fails(t, what, e, x.e, l)
			same(t, what+": the line", line, x.line)
		}
	}
}

// P8.1: a text of all that horizons can have is printed and parsed.
func TestLargestText(t *testing.T) {
	var l []horizon.Horizon
	for i := range 8 {
		l = append(l, full(strings.Repeat("x", 23)+string(rune('a'+i)), 1000, 100000))
	}
	s, e := horizon.Print(l)
	ok(t, "Print", e)
	same(t, "the lines", strings.Count(s, "\n"), 8*257)
	got, line, e := horizon.Parse(s)
	ok(t, "Parse", e)
	same(t, "Parse", []any{got, line}, []any{l, 0})
}
