package gun

import (
	"strings"

	"moveout/api"
	"moveout/common"
)

// maxDigits is how many digits an integer of a text has at most.
const maxDigits = 9

// Print returns the text of a string.
func Print(s String) (string, api.Errno) {
	if e := CheckString(s); e != api.OK {
		return "", e
	}
	return strings.Join(common.Each(s.Guns, printGun), ""), api.OK
}

func printGun(g Gun) string {
	l := numbersOf(g)
	return "gun " + g.Name + " " + common.PrintNumbers(l[:])
}

// Parse returns the string with a text, or the index of the first line that is wrong.
func Parse(s string) (String, int, api.Errno) {
	var out String
	read := func(next func() string) bool {
		g, ok := readGun(next)
		out.Guns = append(out.Guns, g)
		return ok
	}
	if at, e := common.ReadText(s, api.MaxText, read, func() api.Errno { return CheckString(out) }); e != api.OK {
		return String{}, at, e
	}
	return out, 0, api.OK
}

// readGun takes the words of a gun, and reports whether they have the form of one.
func readGun(next func() string) (Gun, bool) {
	if next() != "gun" {
		return Gun{}, false
	}
	name := next()
	var l numbers
	ok := common.ReadNumbers(next, l[:], maxDigits)
	return l.gun(name), ok && name != ""
}
