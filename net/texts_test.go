package net_test

import (
	"slices"
	"strings"
	"testing"

	"moveout/api"
	"moveout/net"
)

const towedText = "body vessel 0 0 0 0\nbody buoy 90 110 -20 20\nbody tail 180 220 -30 30\nrange 0 1 10000 10816\nrange 1 2 8100 12100\n"

// wide returns a network whose numbers are long ones, and its text.
func wide() (net.Network, string) {
	n := net.Network{
		Bodies: []net.Body{body("A_9", -100000, 100000, -1, 10), body(strings.Repeat("z", 24), -9, -9, 100, 1001)},
		Ranges: []net.Range{between(1, 0, 0, 80000000000), between(0, 1, 79999999999, 80000000000)},
	}
	return n, "body A_9 -100000 100000 -1 10\nbody " + strings.Repeat("z", 24) + " -9 -9 100 1001\nrange 1 0 0 80000000000\nrange 0 1 79999999999 80000000000\n"
}

// P2.1: Print.
func TestPrint(t *testing.T) {
	n, text := wide()
	for _, x := range []struct {
		n    net.Network
		want string
	}{{towed(), towedText}, {net.Network{Bodies: crowd(1)}, "body b 0 0 0 0\n"}, {n, text}} {
		s, e := net.Print(x.n)
		ok(t, "Print", e)
		same(t, "Print", s, x.want)
	}
	for _, x := range badNetworks() {
		s, e := net.Print(x.n)
		fails(t, "Print of "+x.what, s, e, x.e)
	}
}

// P2.1: Parse.
func TestParse(t *testing.T) {
	n, text := wide()
	for _, x := range []struct {
		s    string
		want net.Network
	}{
		{towedText, towed()}, {"body b 0 0 0 0\n", net.Network{Bodies: crowd(1)}}, {text, n},
		{"body a 0 0 0 0\nbody b 0 0 0 0\n" + strings.Repeat("range 0 1 0 0\n", 24), net.Network{Bodies: []net.Body{body("a", 0, 0, 0, 0), body("b", 0, 0, 0, 0)}, Ranges: slices.Repeat([]net.Range{between(0, 1, 0, 0)}, 24)}},
	} {
		n, at, e := net.Parse(x.s)
		ok(t, "Parse", e)
		same(t, "Parse", n, x.want)
		same(t, "the index of Parse", at, 0)
	}
}

// refused checks that a text is refused with an index and an error.
func refused(t *testing.T, text string, at int, e api.Errno) {
	t.Helper()
	n, gotAt, gotE := net.Parse(text)
	name := text[:min(len(text), 80)]
	same(t, "Parse of "+name, [2]int{gotAt, int(gotE)}, [2]int{at, int(e)})
	same(t, "Parse of "+name, n, net.Network{})
}

// P2.1: the lines that Parse refuses.
func TestParseSyntax(t *testing.T) {
	const two = "body a 0 0 0 0\nbody b 0 0 0 0\n"
	for _, s := range []string{
		"\n", " \n", "x\n", "body\n", "body \n", "body x\n", "body x 0 0 0\n", "body x 0 0 0 0 0\n", "body x 0 0 0 0", "body  0 0 0 0\n", "body 0 0 0 0\n", "body x  0 0 0 0\n", "body x 0 0  0 0\n", " body x 0 0 0 0\n", "body x 0 0 0 0 \n", "Body x 0 0 0 0\n", "bodys x 0 0 0 0\n", "body\tx 0 0 0 0\n", "body x 0 0 0 0\r\n", "body x y 0 0 0 0\n", "body x 0 0 0 y\n", "body x 0 0 0 0\x00\n", "x", "body",
		"range\n", "range 0 1 0\n", "range 0 1 0 0 0\n", "range 0 1 0 0", "range 0 1 0 0 \n", " range 0 1 0 0\n", "range  0 1 0 0\n", "range 0 1  0 0\n", "Range 0 1 0 0\n", "range x 0 1 0 0\n", "range 0 x 0 0\n", "range a b 0 0\n", "range 0 1 0 0\r\n", "ranges 0 1 0 0\n",
	} {
		refused(t, s, 0, api.ErrSyntax)
		refused(t, two+s, 2, api.ErrSyntax)
		refused(t, two+"range 0 1 0 0\n"+s, 3, api.ErrSyntax)
		// a line with an error decides before all that CheckNetwork would say
		refused(t, "body 1 1 0 0 0\n"+s, 1, api.ErrSyntax)
		// and before the lines behind it
		if strings.HasSuffix(s, "\n") {
			refused(t, two+s+"?", 2, api.ErrSyntax)
		}
	}
	for _, word := range []string{"", "-", "+1", "-0", "00", "01", "-01", "--1", "1-", "1.", "0.5", "1e3", "0x1", "1_0", "a", "100000000000", "-100000000000", "00000000000", "99999999999999999999", "٣", "1\x00", "1\r", "1\t"} {
		for i := range 4 {
			l := []string{"0", "1", "2", "3"}
			l[i] = word
			four := strings.Join(l, " ") + "\n"
			refused(t, "body x "+four, 0, api.ErrSyntax)
			refused(t, two+"range "+four, 2, api.ErrSyntax)
		}
	}
	// a body behind a range
	refused(t, "body a 0 0 0 0\nrange 0 1 0 0\nbody b 0 0 0 0\n", 2, api.ErrSyntax)
	refused(t, "range 0 1 0 0\nbody a 0 0 0 0\nbody b 0 0 0 0\n", 1, api.ErrSyntax)
	refused(t, two+"range 0 1 0 0\nrange 0 1 0 0\nbody c 0 0 0 0\n", 4, api.ErrSyntax)
}

// P2.1: the errors of CheckNetwork behind all lines.
func TestParseChecks(t *testing.T) {
	const two = "body a 0 0 0 0\nbody b 0 0 0 0\n"
	for _, x := range []struct {
		s  string
		at int
		e  api.Errno
	}{
		{"", 0, api.ErrEmpty}, {"range 0 1 0 0\n", 1, api.ErrEmpty}, {strings.Repeat("body a 0 0 0 0\n", 9), 9, api.ErrMany}, {"body 1 0 0 0 0\n", 1, api.ErrName}, {"body x\t 0 0 0 0\n", 1, api.ErrName}, {"body é 0 0 0 0\n", 1, api.ErrName}, {"body " + strings.Repeat("x", 25) + " 0 0 0 0\n", 1, api.ErrName}, {"body -1 0 0 0 0\n", 1, api.ErrName},
		{"body a 0 0 0 0\nbody a 0 0 0 0\n", 2, api.ErrTwice}, {"body a 0 0 0 100001\n", 1, api.ErrRange}, {"body a -99999999999 99999999999 0 0\n", 1, api.ErrRange}, {"body a 1 0 0 0\n", 1, api.ErrOrder}, {"body a 0 0 1 0\n", 1, api.ErrOrder},
		{two + strings.Repeat("range 0 1 0 0\n", 25), 27, api.ErrMany}, {two + "range 0 2 0 0\n", 3, api.ErrUnknown}, {two + "range -1 0 0 0\n", 3, api.ErrUnknown}, {two + "range 99999999999 0 0 0\n", 3, api.ErrUnknown}, {two + "range 1 1 0 0\n", 3, api.ErrTwice}, {two + "range 0 1 -1 0\n", 3, api.ErrRange}, {two + "range 0 1 0 80000000001\n", 3, api.ErrRange}, {two + "range 0 1 0 99999999999\n", 3, api.ErrRange}, {two + "range 0 1 1 0\n", 3, api.ErrOrder}, {two + "range 0 1 0 0\nrange 0 1 1 0\n", 4, api.ErrOrder},
		{"body a 1 0 0 0\nbody 1 0 0 0 0\nrange 0 0 0 0\n", 3, api.ErrOrder},
	} {
		refused(t, x.s, x.at, x.e)
	}
}

// P2.1: the limit of Parse.
func TestParseLong(t *testing.T) {
	refused(t, strings.Repeat("x", 4097), 0, api.ErrLong)
	refused(t, strings.Repeat("\n", 4097), 0, api.ErrLong)
	refused(t, towedText+strings.Repeat("x", 4096), 0, api.ErrLong)
	refused(t, strings.Repeat("x", 4096), 0, api.ErrSyntax)
	refused(t, towedText+strings.Repeat("x", 4096-len(towedText)), 5, api.ErrSyntax)
	rest := " 0 0 0 0\n"
	refused(t, "body "+strings.Repeat("x", 4096-5-len(rest))+rest, 1, api.ErrName)
	refused(t, "body "+strings.Repeat("x", 4097-5-len(rest))+rest, 0, api.ErrLong)
}
