package net

import (
	"slices"
	"strconv"
	"strings"

	"moveout/api"
	"moveout/common"
)

// maxDigits is how many digits an integer of a text has at most.
const maxDigits = 11

// Print returns the text of a network.
func Print(n Network) (string, api.Errno) {
	if e := CheckNetwork(n); e != api.OK {
		return "", e
	}
	lines := slices.Concat(common.Each(n.Bodies, printBody), common.Each(n.Ranges, printRange))
	return strings.Join(lines, ""), api.OK
}

func printBody(b Body) string {
	return "body " + b.Name + " " + printNumbers(endsOf(b.Box))
}

func printRange(r Range) string {
	return "range " + printNumbers([4]int{r.A, r.B, r.Square.Low, r.Square.High})
}

// printNumbers returns the end of a line: four integers, and the line feed.
func printNumbers(l [4]int) string {
	return strings.Join(common.Each(l[:], strconv.Itoa), " ") + "\n"
}

// kind is a kind of line: whether it stands before all lines of other kinds, and what takes the words behind its first one for a network, and reports whether they have the form of the kind.
type kind struct {
	leads bool
	read  func(n *Network, next func() string) bool
}

func kinds() map[string]kind {
	return map[string]kind{
		"body":  {leads: true, read: readBody},
		"range": {read: readRange},
	}
}

// Parse returns the network of a text, and the index of the first line that is wrong.
func Parse(s string) (Network, int, api.Errno) {
	if len(s) > api.MaxText {
		return Network{}, 0, api.ErrLong
	}
	var n Network
	forms := kinds()
	lines := common.Lines(s)
	for i, line := range lines {
		text, ended := strings.CutSuffix(line, "\n")
		w := common.WordsOf(text)
		form, known := forms[w.Next()]
		late := form.leads && len(n.Ranges) > 0
		if !ended || !known || late || !form.read(&n, w.Next) || !w.Done() {
			return Network{}, i, api.ErrSyntax
		}
	}
	if e := CheckNetwork(n); e != api.OK {
		return Network{}, len(lines), e
	}
	return n, 0, api.OK
}

func readBody(n *Network, next func() string) bool {
	name := next()
	l, ok := readNumbers(next)
	n.Bodies = append(n.Bodies, Body{Name: name, Box: ends(l).box()})
	return ok && name != ""
}

func readRange(n *Network, next func() string) bool {
	l, ok := readNumbers(next)
	n.Ranges = append(n.Ranges, Range{A: l[0], B: l[1], Square: api.Interval{Low: l[2], High: l[3]}})
	return ok
}

// readNumbers takes four integers, and reports whether there are as many.
func readNumbers(next func() string) ([4]int, bool) {
	var l [4]int
	for i := range l {
		n, ok := common.Number(next(), maxDigits)
		if !ok {
			return [4]int{}, false
		}
		l[i] = n
	}
	return l, true
}
