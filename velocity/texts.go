package velocity

import (
	"strings"

	"moveout/api"
	"moveout/common"
)

// maxDigits is how many digits an integer of a text has at most.
const maxDigits = 10

// Print returns the text of picks.
func Print(l []Pick) (string, api.Errno) {
	if e := CheckPicks(l); e != api.OK {
		return "", e
	}
	return strings.Join(common.Each(l, printPick), ""), api.OK
}

func printPick(p Pick) string {
	return "pick " + common.PrintNumbers(common.Each(fields(), func(f field) int { return *f.at(&p) }))
}

// Parse returns the picks of a text, and the index of the first line that is wrong.
func Parse(s string) ([]Pick, int, api.Errno) {
	var l []Pick
	read := func(next func() string) bool {
		p, ok := readPick(next)
		l = append(l, p)
		return ok
	}
	if at, e := common.ReadText(s, api.MaxText, read, func() api.Errno { return CheckPicks(l) }); e != api.OK {
		return nil, at, e
	}
	return l, 0, api.OK
}

// readPick takes the words of a pick, and reports whether they have the form of one.
func readPick(next func() string) (Pick, bool) {
	var p Pick
	ok := next() == "pick"
	for _, f := range fields() {
		n, isNumber := common.Digits(next(), maxDigits)
		*f.at(&p) = n
		ok = ok && isNumber
	}
	return p, ok
}
