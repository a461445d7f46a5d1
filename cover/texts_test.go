package cover_test

import (
	"strconv"
	"strings"
	"testing"

	"moveout/api"
	"moveout/cover"
)

const firstText = "line a 60 50 100 0 2 -20 0 -40 0 2\n"

// texts returns lines with their texts.
func texts() map[string][]cover.Line {
	long := cover.Line{Name: strings.Repeat("z", 24), Start: at(-100000, 99999), Step: at(1000, -1001), Shots: 64, Near: at(10000, -10000), Spacing: at(9, -9), Channels: 16, Refused: upTo(64)}
	refused := ""
	for i := range 64 {
		refused += "refused " + strconv.Itoa(i) + "\n"
	}
	return map[string][]cover.Line{
		"": nil, firstText: {first()}, firstText + "refused 1\n": {refusing(1)}, firstText + "refused 0\nrefused 1\n": {refusing(0, 1)},
		firstText + "refused 0\nline b 60 50 100 0 2 -20 0 -40 0 2\nline line 1 2 3 4 5 6 7 8 9 10\nrefused 3\n": {refusing(0), named("b"), {Name: "line", Start: at(1, 2), Step: at(3, 4), Shots: 5, Near: at(6, 7), Spacing: at(8, 9), Channels: 10, Refused: []int{3}}},
		"line " + strings.Repeat("z", 24) + " -100000 99999 1000 -1001 64 10000 -10000 9 -9 16\n" + refused:      {long},
	}
}

// P4.5: Print.
func TestPrint(t *testing.T) {
	for want, l := range texts() {
		s, e := cover.Print(l)
		ok(t, "Print", e)
		same(t, "Print", s, want)
	}
	for _, x := range badLists() {
		s, e := cover.Print(x.l)
		fails(t, "Print: "+x.what, s, e, x.e)
	}
}

// P4.5: Parse.
func TestParse(t *testing.T) {
	for s, want := range texts() {
		l, i, e := cover.Parse(s)
		ok(t, "Parse", e)
		same(t, "Parse", l, want)
		same(t, "the index of Parse", i, 0)
	}
}

// refuses checks that a text is refused with an index and an error.
func refuses(t *testing.T, text string, index int, want api.Errno) {
	t.Helper()
	l, i, e := cover.Parse(text)
	name := text[:min(len(text), 80)]
	fails(t, "Parse of "+name, l, e, want)
	same(t, "the index of Parse of "+name, i, index)
}

// P4.5: the lines that Parse refuses.
func TestParseSyntax(t *testing.T) {
	const ten = " 1 2 3 4 5 6 7 8 9 10"
	for _, s := range []string{
		"\n", " \n", "x\n", "x", " ", "line\n", "line \n", "line b\n", "line b 1 2 3 4 5 6 7 8 9\n", "line b" + ten + " 11\n", "line b" + ten, "line " + ten + "\n", "line" + ten + "\n", "line  b" + ten + "\n", "line b " + ten + "\n", "line b 1 2 3 4 5  6 7 8 9 10\n", " line b" + ten + "\n", "line b" + ten + " \n", "Line b" + ten + "\n", "lines b" + ten + "\n", "line\tb" + ten + "\n", "line b" + ten + "\r\n", "line b c" + ten + "\n", "line b" + ten + "\x00\n", "line", "b" + ten + "\n", "\x00\n",
		"refused\n", "refused \n", "refused  1\n", "refused 1 2\n", "refused 1 \n", " refused 1\n", "refused 1", "refused x\n", "Refused 1\n", "refuse 1\n", "refused\t1\n", "refused 1\r\n", "refused a 1\n", "refused",
	} {
		refuses(t, s, 0, api.ErrSyntax)
		refuses(t, firstText+s, 1, api.ErrSyntax)
		refuses(t, firstText+"refused 0\n"+s, 2, api.ErrSyntax)
		// a line with an error decides before all that CheckLines would say
		refuses(t, firstText+firstText+"refused 9\n"+s, 3, api.ErrSyntax)
		// and before the lines behind it
		if strings.HasSuffix(s, "\n") {
			refuses(t, firstText+s+"?", 1, api.ErrSyntax)
		}
	}
	// a refused shot before any line
	refuses(t, "refused 0\n", 0, api.ErrSyntax)
	refuses(t, "refused 0\n"+firstText, 0, api.ErrSyntax)
}

// P4.5: the integers that Parse refuses, and those that it takes.
func TestParseIntegers(t *testing.T) {
	line := func(i int, word string) string {
		words := strings.Split("1 2 3 4 5 6 7 8 9 10", " ")
		words[i] = word
		return "line x " + strings.Join(words, " ") + "\n"
	}
	for _, word := range []string{"", "-", "+1", "-0", "00", "01", "-01", "--1", "1-", "1.", "0.5", "1e3", "0x1", "1_0", "a", "1000000000", "-1000000000", "0000000001", "99999999999999999999", "٣", "1\x00", "1\r", "1\t"} {
		for i := range 10 {
			refuses(t, line(i, word), 0, api.ErrSyntax)
		}
		refuses(t, firstText+"refused "+word+"\n", 1, api.ErrSyntax)
	}
	for _, word := range []string{"999999999", "-999999999"} {
		for i := range 10 {
			refuses(t, line(i, word), 1, api.ErrRange)
		}
		refuses(t, firstText+"refused "+word+"\n", 2, api.ErrUnknown)
	}
}

// P4.5: the errors of CheckLines behind all lines of a text.
func TestParseChecks(t *testing.T) {
	var many strings.Builder
	for _, l := range fleet(33) {
		many.WriteString(strings.Replace(firstText, " a ", " "+l.Name+" ", 1))
	}
	with := func(name string) string { return strings.Replace(firstText, " a ", " "+name+" ", 1) }
	for _, x := range []struct {
		s     string
		index int
		e     api.Errno
	}{
		{many.String(), 33, api.ErrMany}, {strings.Repeat(with("_"), 33), 33, api.ErrMany}, {strings.Repeat(firstText, 2), 2, api.ErrTwice}, {firstText + "refused 1\n" + firstText, 3, api.ErrTwice},
		{with("1"), 1, api.ErrName}, {with("é"), 1, api.ErrName}, {with("x\t"), 1, api.ErrName}, {with(strings.Repeat("x", 25)), 1, api.ErrName}, {with("-1"), 1, api.ErrName}, {with("x") + with("x-y") + with("x"), 3, api.ErrName},
		{"line a 100001 0 0 0 1 0 0 0 0 1\n", 1, api.ErrRange}, {"line a 0 0 0 0 0 0 0 0 0 1\n", 1, api.ErrRange}, {"line a 0 0 0 0 1 0 0 0 0 17\nrefused 9\n", 2, api.ErrRange},
		{firstText + "refused 2\n", 2, api.ErrUnknown}, {firstText + "refused -1\n", 2, api.ErrUnknown}, {firstText + "refused 1\nrefused 0\n", 3, api.ErrOrder}, {firstText + "refused 1\nrefused 1\nrefused 7\n", 4, api.ErrOrder}, {firstText + strings.Repeat("refused 0\n", 1000), 1001, api.ErrOrder},
		{"line a 99950 50 100 0 2 -20 0 -40 0 2\n", 1, api.ErrLarge},
	} {
		refuses(t, x.s, x.index, x.e)
	}
}

// P4.5: the limit of Parse.
func TestParseLong(t *testing.T) {
	refuses(t, strings.Repeat("x", 1000001), 0, api.ErrLong)
	refuses(t, strings.Repeat("\n", 1000001), 0, api.ErrLong)
	refuses(t, firstText+strings.Repeat("x", 1000000), 0, api.ErrLong)
	refuses(t, strings.Repeat("x", 1000000), 0, api.ErrSyntax)
	refuses(t, firstText+strings.Repeat("x", 1000000-len(firstText)), 1, api.ErrSyntax)
	rest := " 1 2 3 4 5 6 7 8 9 10\n"
	refuses(t, "line "+strings.Repeat("x", 1000000-5-len(rest))+rest, 1, api.ErrName)
	refuses(t, "line "+strings.Repeat("x", 1000001-5-len(rest))+rest, 0, api.ErrLong)
}
