package gun

import (
	"strconv"
	"strings"

	"moveout/api"
	"moveout/common"
)

// maxDigits is how many digits an integer of a text has at most.
const maxDigits = 9

// Print returns the text of a string.
func Print(s String) (string, api.Errno) {
	if e := CheckString(s); e != api.OK {
		return "", e
	}
	return strings.Join(common.Each(s.Guns, printGun), ""), api.OK
}

func printGun(g Gun) string {
	l := numbersOf(g)
	return "gun " + g.Name + " " + strings.Join(common.Each(l[:], strconv.Itoa), " ") + "\n"
}

// Parse returns the string with a text, or the index of the first line that is wrong.
func Parse(s string) (String, int, api.Errno) {
	if len(s) > api.MaxText {
		return String{}, 0, api.ErrLong
	}
	var out String
	lines := common.Lines(s)
	for i, line := range lines {
		text, ended := strings.CutSuffix(line, "\n")
		words := common.WordsOf(text)
		g, ok := readGun(words.Next)
		if !ended || !ok || !words.Done() {
			return String{}, i, api.ErrSyntax
		}
		out.Guns = append(out.Guns, g)
	}
	if e := CheckString(out); e != api.OK {
		return String{}, len(lines), e
	}
	return out, 0, api.OK
}

// readGun takes the words of a gun, and reports whether they have the form of one.
func readGun(next func() string) (Gun, bool) {
	if next() != "gun" {
		return Gun{}, false
	}
	name := next()
	var l numbers
	for i := range l {
		n, ok := common.Number(next(), maxDigits)
		if !ok {
			return Gun{}, false
		}
		l[i] = n
	}
	return l.gun(name), name != ""
}
