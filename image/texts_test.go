package image_test

import (
	"strings"
	"testing"

	"moveout/api"
	"moveout/image"
)

// P7.4: Print and Parse.
func TestTexts(t *testing.T) {
	for s, g := range map[string]image.Ground{
		"ground 2 2\nrow 1 2\nrow 3 4\n":       groundG(),
		"ground 1 1\nrow 100\n":                ground(1, 1, 100),
		"ground 3 1\nrow 1 10 100\n":           ground(3, 1, 1, 10, 100),
		"ground 1 3\nrow 1\nrow 10\nrow 100\n": ground(1, 3, 1, 10, 100),
		"ground 16 16\n" + strings.Repeat("row"+strings.Repeat(" 100", 16)+"\n", 16): even(16, 16, 100),
	} {
		text, e := image.Print(g)
		ok(t, "Print", e)
		same(t, "Print", text, s)
		got, line, e := image.Parse(s)
		ok(t, "Parse", e)
		same(t, "Parse", []any{got, line}, []any{g, 0})
	}
}

// P7.4: the errors of Print.
func TestPrintErrors(t *testing.T) {
	for _, x := range badGrounds() {
		s, e := image.Print(x.g)
		fails(t, "Print of "+x.what, e, x.e, s)
	}
}

// P7.4: the errors of Parse.
func TestParseErrors(t *testing.T) {
	head, row := "ground 2 2\n", "row 1 2\n"
	for _, x := range []struct {
		e    api.Errno
		line int
		l    []string
	}{
		{api.ErrLong, 0, []string{strings.Repeat("x", 4097), strings.Repeat("\n", 4097), head + strings.Repeat(row, 511), strings.Repeat(" ", 100000)}},
		{api.ErrSyntax, 0, []string{
			"", "\n", " ", " \n", "ground", "ground\n", "ground 2\n", "ground 2 2", "ground 2 2 2\n", "ground 2 2 \n", " ground 2 2\n", "ground  2 2\n", "ground 2  2\n", "ground 2 \n", "ground\t2 2\n", "ground 2 2\r\n", "Ground 2 2\n", "grounds 2 2\n", "2 2\n", " 2 2\n", row, "row\n", row + head, head[:10] + " " + row,
			"ground -2 2\n", "ground 2 -2\n", "ground 2 -0\n", "ground +2 2\n", "ground 02 2\n", "ground 2 02\n", "ground 2 00\n", "ground 2 1_0\n", "ground 2 0x1\n", "ground 2 1.0\n", "ground 2 1e1\n", "ground x 2\n", "ground 2 2x\n", "ground 2 x2\n", "ground 2 \u0662\n", "ground 2 \xff\n", "ground 2 \x00\n", "ground 2 :\n", "ground 2 /\n",
			"ground 1000000000 1\n", "ground 1 1000000000\n", "ground 0000000001 1\n", "ground 1 99999999999999999999\n", "ground 1 18446744073709551617\n",
			"x\n" + head + row, "\n" + head, strings.Repeat("x", 4096), strings.Repeat("\n", 4096), strings.Repeat("9", 4096),
		}},
		{api.ErrSyntax, 1, []string{head + "row 1 2", head + "row\n", head + "row 1\n", head + "row 1 2 3\n", head + "row 1 2 \n", head + " row 1 2\n", head + "row  1 2\n", head + "row 1  2\n", head + "\n", head + " ", head + head, head + "rows 1 2\n", head + "1 2\n", head + "row 1 02\n", head + "row 1 -2\n", head + "row 1 1000000000\n", head + "row 1 x\n", head + row[:7] + "\x00\n", head + "row 1 \u0662\n", "ground 0 1\nrow 1\n", "ground 0 1\nrow \n", "ground 999999999 1\nrow 1\n", "ground 999999999 999999999\n" + row + row, "ground 17 1\n" + row, head + "row\n" + "x"}},
		{api.ErrSyntax, 2, []string{head + row + "row", head + row + "\n" + row, head + row + "row 1 2 3\n", head + row + head, head + row + "row 3 4"}},
		{api.ErrSyntax, 3, []string{head + row + row + "\n", head + row + row + "x", head + row + row + "row 1 2"}},
		{api.ErrShape, 1, []string{head, "ground 0 1\n", "ground 17 1\n", "ground 1 999999999\n", "ground 999999999 999999999\n"}},
		{api.ErrShape, 2, []string{head + row, "ground 2 0\n" + row, "ground 2 17\n" + row, "ground 2 999999999\nrow 0 0\n", "ground 0 0\nrow\n"}},
		{api.ErrShape, 4, []string{head + row + row + row, head + row + row + "row 0 0\n"}},
		{api.ErrShape, 511, []string{"ground 0 1\n" + strings.Repeat("row\n", 510)}},
		{api.ErrRange, 1, []string{"ground 0 0\n", "ground 2 0\n", "ground 17 0\n", "ground 999999999 0\n"}},
		{api.ErrRange, 2, []string{"ground 0 1\nrow\n", "ground 1 1\nrow 0\n", "ground 1 1\nrow 101\n", "ground 1 1\nrow 999999999\n", "ground 17 1\nrow" + strings.Repeat(" 1", 17) + "\n", "ground 17 1\nrow" + strings.Repeat(" 0", 17) + "\n"}},
		{api.ErrRange, 3, []string{head + row + "row 1 0\n", head + "row 101 1\n" + row}},
		{api.ErrRange, 18, []string{"ground 1 17\n" + strings.Repeat("row 1\n", 17), "ground 0 17\n" + strings.Repeat("row\n", 17)}},
	} {
		for _, s := range x.l {
			what := "Parse of " + s[:min(len(s), 40)]
			g, line, e := image.Parse(s)
			fails(t, what, e, x.e, g)
			same(t, what+": the line", line, x.line)
		}
	}
}

// P7.4: a text with the most bytes is read.
func TestLongestText(t *testing.T) {
	s := "ground 1 680\n" + strings.Repeat("row 1\n", 680)
	s += "\n" + strings.Repeat("x", 4096-len(s)-1)
	g, line, e := image.Parse(s)
	fails(t, "Parse of the longest text", e, api.ErrSyntax, g)
	same(t, "Parse of the longest text: the line", line, 681)
	g, line, e = image.Parse(s + "x")
	fails(t, "Parse of a text that is too long", e, api.ErrLong, g)
	same(t, "Parse of a text that is too long: the line", line, 0)
}
