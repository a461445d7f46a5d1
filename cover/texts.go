package cover

import (
	"slices"
	"strings"

	"moveout/api"
	"moveout/common"
)

// maxDigits is how many digits an integer of a text has at most.
const maxDigits = 9

// Print returns the text of lines.
func Print(l []Line) (string, api.Errno) {
	if e := CheckLines(l); e != api.OK {
		return "", e
	}
	return strings.Join(common.Each(l, printLine), ""), api.OK
}

// printLine returns the lines of a text that a line has.
func printLine(l Line) string {
	n := numbersOf(l)
	refused := common.Each(l.Refused, func(shot int) string { return "refused " + common.PrintNumbers([]int{shot}) })
	return "line " + l.Name + " " + common.PrintNumbers(n[:]) + strings.Join(refused, "")
}

// kind is a kind of line of a text: its first word, and what takes the words behind it for the lines before, and reports whether they have the form of the kind.
type kind struct {
	word string
	read func(l *[]Line, next func() string) bool
}

func kinds() []kind {
	return []kind{
		{word: "line", read: readLine},
		{word: "refused", read: readRefused},
	}
}

// Parse returns the lines of a text, and the index of the first line that is wrong.
func Parse(s string) ([]Line, int, api.Errno) {
	var l []Line
	forms := kinds()
	read := func(next func() string) bool {
		word := next()
		i := slices.IndexFunc(forms, func(k kind) bool { return k.word == word })
		return i >= 0 && forms[i].read(&l, next)
	}
	if at, e := common.ReadText(s, api.MaxLog, read, func() api.Errno { return CheckLines(l) }); e != api.OK {
		return nil, at, e
	}
	return l, 0, api.OK
}

func readLine(l *[]Line, next func() string) bool {
	name := next()
	var n numbers
	ok := common.ReadNumbers(next, n[:], maxDigits)
	*l = append(*l, n.line(name))
	return ok && name != ""
}

// readRefused takes a refused shot of the last line before it.
func readRefused(l *[]Line, next func() string) bool {
	if len(*l) == 0 {
		return false
	}
	var shot [1]int
	ok := common.ReadNumbers(next, shot[:], maxDigits)
	last := &(*l)[len(*l)-1]
	last.Refused = append(last.Refused, shot[0])
	return ok
}
