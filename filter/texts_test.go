package filter_test

import (
	"strings"
	"testing"

	"moveout/api"
	"moveout/filter"
)

// P5.1: Print and Parse.
func TestTexts(t *testing.T) {
	for s, taps := range map[string][]int{"1 -2": {1, -2}, "16": {16}, "-16 0 0 16": {-16, 0, 0, 16}, "1 2 3 4 5 6 7 8": {1, 2, 3, 4, 5, 6, 7, 8}, "-1 10 -10": {-1, 10, -10}} {
		text, e := filter.Print(taps)
		ok(t, "Print", e)
		same(t, "Print", text, s)
		got, e := filter.Parse(s)
		ok(t, "Parse", e)
		same(t, "Parse", got, taps)
	}
}

// P5.1: the errors of Print.
func TestPrintErrors(t *testing.T) {
	for _, x := range badTapLists() {
		s, e := filter.Print(x.taps)
		fails(t, "Print of "+x.what, s, e, x.e)
	}
}

// P5.1: the errors of Parse.
func TestParseErrors(t *testing.T) {
	ones := strings.TrimSuffix(strings.Repeat("1 ", 2048), " ")
	for e, l := range map[api.Errno][]string{
		api.ErrLong:   {ones + "  ", strings.Repeat("x", 4097), strings.Repeat(" ", 4097), ones + "11", strings.Repeat("1", 100000)},
		api.ErrSyntax: {"", " ", "1 ", " 1", "1  2", "1\n", "1 2\n", "1\t2", "1,2", "+1", "-", "- 1", "--1", "-0", "1 -0", "00", "01", "1 -02", "1.0", "1e1", "0x1", "1_0", "1 x", "17 x", "0 x", "1234567890", "-1234567890", "1 0000000001", "\x00", "1\x002", "\xff", "\u0661", "\u00b9", strings.Repeat("x", 4096), strings.Repeat(" ", 4096), ones + " ", "1 1 1 1 1 1 1 1 1 x", strings.Repeat("9", 400)},
		api.ErrMany:   {ones, "1 2 3 4 5 6 7 8 9", "17 2 3 4 5 6 7 8 9", "0 0 0 0 0 0 0 0 0"},
		api.ErrRange:  {"17", "-17", "1 17", "0 17", "999999999", "1 -999999999", "1 0 100"},
		api.ErrZero:   {"0", "0 1", "0 16 -16"},
	} {
		for _, s := range l {
			taps, got := filter.Parse(s)
			fails(t, "Parse of "+s[:min(len(s), 40)], taps, got, e)
		}
	}
}
