package survey

import (
	"strings"

	"moveout/api"
	"moveout/common"
)

// maxDigits is how many digits an integer of a text has at most.
const maxDigits = 9

// Print returns the text of entries.
func Print(l []Entry) (string, api.Errno) {
	if e := CheckEntries(l); e != api.OK {
		return "", e
	}
	return strings.Join(common.Each(l, printEntry), ""), api.OK
}

func printEntry(x Entry) string {
	return common.JoinNumbers([]int{x.Span.From, x.Span.To}) + " " + x.Cause + "\n"
}

// Parse returns the entries of a text, and the index of the first line that is wrong.
func Parse(s string) ([]Entry, int, api.Errno) {
	var l []Entry
	read := func(next func() string) bool { return readEntry(&l, next) }
	if at, e := common.ReadText(s, api.MaxText, read, func() api.Errno { return CheckEntries(l) }); e != api.OK {
		return nil, at, e
	}
	return l, 0, api.OK
}

func readEntry(l *[]Entry, next func() string) bool {
	from, isFrom := common.Digits(next(), maxDigits)
	to, isTo := common.Digits(next(), maxDigits)
	word := next()
	*l = append(*l, Entry{Span: api.Span{From: from, To: to}, Cause: word})
	return isFrom && isTo && word != ""
}
