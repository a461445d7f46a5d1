package gun_test

import (
	"strings"
	"testing"

	"moveout/api"
	"moveout/gun"
)

const pairText = "gun a 16 0 0 0 0 1\ngun b 8 -30 0 1 0 0\n"

// long returns a string whose numbers and names are long ones, and its text.
func long() (gun.String, string) {
	s := gun.String{Guns: []gun.Gun{
		{Name: strings.Repeat("z", 24), Volume: 64, At: at(-1000, 1000), Fires: 16, Shift: span(0, 4)},
		{Name: "A_9", Volume: 1, At: at(1000, -999), Fires: 10, Shift: span(2, 3)},
	}}
	return s, "gun " + strings.Repeat("z", 24) + " 64 -1000 1000 16 0 4\ngun A_9 1 1000 -999 10 2 3\n"
}

// P3.5: Print.
func TestPrint(t *testing.T) {
	s, text := long()
	for _, x := range []struct {
		s    gun.String
		want string
	}{{pair(), pairText}, {ofVolumes(7), "gun a 7 0 0 0 0 0\n"}, {s, text}} {
		got, e := gun.Print(x.s)
		ok(t, "Print", e)
		same(t, "Print", got, x.want)
	}
	for _, x := range badStrings() {
		got, e := gun.Print(x.s)
		fails(t, "Print of "+x.what, got, e, x.e)
	}
}

// P3.5: Parse.
func TestParse(t *testing.T) {
	s, text := long()
	for _, x := range []struct {
		s    string
		want gun.String
	}{{pairText, pair()}, {"gun a 7 0 0 0 0 0\n", ofVolumes(7)}, {text, s}, {"gun gun 7 0 0 0 0 0\n", gun.String{Guns: []gun.Gun{{Name: "gun", Volume: 7}}}}} {
		got, at, e := gun.Parse(x.s)
		ok(t, "Parse", e)
		same(t, "Parse", got, x.want)
		same(t, "the index of Parse", at, 0)
	}
}

// refused checks that a text is refused with an index and an error.
func refused(t *testing.T, text string, at int, e api.Errno) {
	t.Helper()
	s, gotAt, gotE := gun.Parse(text)
	name := text[:min(len(text), 80)]
	same(t, "Parse of "+name, [2]int{gotAt, int(gotE)}, [2]int{at, int(e)})
	same(t, "Parse of "+name, s, gun.String{})
}

// P3.5: the lines that Parse refuses.
func TestParseSyntax(t *testing.T) {
	for _, s := range []string{
		"\n", " \n", "x\n", "gun\n", "gun \n", "gun c\n", "gun c 1 0 0 0 0\n", "gun c 1 0 0 0 0 0 0\n", "gun c 1 0 0 0 0 0", "gun  1 0 0 0 0 0\n", "gun 1 0 0 0 0 0\n", "gun c  1 0 0 0 0 0\n", "gun c 1 0 0  0 0 0\n", " gun c 1 0 0 0 0 0\n", "gun c 1 0 0 0 0 0 \n", "Gun c 1 0 0 0 0 0\n", "guns c 1 0 0 0 0 0\n", "gun\tc 1 0 0 0 0 0\n", "gun c 1 0 0 0 0 0\r\n", "gun c d 1 0 0 0 0 0\n", "gun c 1 0 0 0 0 d\n", "gun c 1 0 0 0 0 0\x00\n", "x", "gun", "c 1 0 0 0 0 0\n", "gun c 1 0 0 0 0 0 x\n",
	} {
		refused(t, s, 0, api.ErrSyntax)
		refused(t, pairText+s, 2, api.ErrSyntax)
		// a line with an error decides before all that CheckString would say
		refused(t, "gun 1 0 0 0 0 0 0\n"+s, 1, api.ErrSyntax)
		// and before the lines behind it
		if strings.HasSuffix(s, "\n") {
			refused(t, pairText+s+"?", 2, api.ErrSyntax)
		}
	}
	for _, word := range []string{"", "-", "+1", "-0", "00", "01", "-01", "--1", "1-", "1.", "0.5", "1e3", "0x1", "1_0", "a", "1000000000", "-1000000000", "000000000", "99999999999999999999", "٣", "1\x00", "1\r", "1\t"} {
		for i := range 6 {
			l := []string{"1", "0", "0", "0", "0", "0"}
			l[i] = word
			refused(t, "gun c "+strings.Join(l, " ")+"\n", 0, api.ErrSyntax)
		}
	}
}

// P3.5: the errors of CheckString behind all lines.
func TestParseChecks(t *testing.T) {
	for _, x := range []struct {
		s  string
		at int
		e  api.Errno
	}{
		{"", 0, api.ErrEmpty}, {strings.Repeat("gun a 1 0 0 0 0 0\n", 9), 9, api.ErrMany}, {"gun 1 1 0 0 0 0 0\n", 1, api.ErrName}, {"gun x\t 1 0 0 0 0 0\n", 1, api.ErrName}, {"gun é 1 0 0 0 0 0\n", 1, api.ErrName}, {"gun " + strings.Repeat("x", 25) + " 1 0 0 0 0 0\n", 1, api.ErrName}, {"gun -1 1 0 0 0 0 0\n", 1, api.ErrName},
		{pairText + "gun a 1 0 0 0 0 0\n", 3, api.ErrTwice}, {"gun a 0 0 0 0 0 0\n", 1, api.ErrRange}, {"gun a 65 0 0 0 0 0\n", 1, api.ErrRange}, {"gun a 999999999 0 0 0 0 0\n", 1, api.ErrRange}, {"gun a 1 -999999999 0 0 0 0\n", 1, api.ErrRange}, {"gun a 1 0 1001 0 0 0\n", 1, api.ErrRange}, {"gun a 1 0 0 17 0 0\n", 1, api.ErrRange}, {"gun a 1 0 0 0 -1 0\n", 1, api.ErrRange}, {"gun a 1 0 0 0 0 5\n", 1, api.ErrRange}, {"gun a 1 0 0 0 1 0\n", 1, api.ErrOrder},
		{"gun a 1 0 0 0 1 0\ngun 1 1 0 0 0 0 0\n", 2, api.ErrOrder},
	} {
		refused(t, x.s, x.at, x.e)
	}
}

// P3.5: the limit of Parse.
func TestParseLong(t *testing.T) {
	refused(t, strings.Repeat("x", 4097), 0, api.ErrLong)
	refused(t, strings.Repeat("\n", 4097), 0, api.ErrLong)
	refused(t, pairText+strings.Repeat("x", 4096), 0, api.ErrLong)
	refused(t, strings.Repeat("x", 4096), 0, api.ErrSyntax)
	refused(t, pairText+strings.Repeat("x", 4096-len(pairText)), 2, api.ErrSyntax)
	rest := " 1 0 0 0 0 0\n"
	refused(t, "gun "+strings.Repeat("x", 4096-4-len(rest))+rest, 1, api.ErrName)
	refused(t, "gun "+strings.Repeat("x", 4097-4-len(rest))+rest, 0, api.ErrLong)
}
