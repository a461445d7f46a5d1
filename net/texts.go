package net

import (
	"slices"
	"strings"

	"moveout/api"
	"moveout/common"
)

// maxDigits is how many digits an integer of a text has at most.
const maxDigits = 11

// Print returns the text of a network.
func Print(n Network) (string, api.Errno) {
	if e := CheckNetwork(n); e != api.OK {
		return "", e
	}
	lines := slices.Concat(common.Each(n.Bodies, printBody), common.Each(n.Ranges, printRange))
	return strings.Join(lines, ""), api.OK
}

func printBody(b Body) string {
	return "body " + b.Name + " " + printEnds(endsOf(b.Box))
}

func printRange(r Range) string {
	return "range " + printEnds(ends{r.A, r.B, r.Square.Low, r.Square.High})
}

// printEnds returns the end of a line: four integers, and the line feed.
func printEnds(l ends) string {
	return common.PrintNumbers(l[:])
}

// kind is a kind of line: whether it stands before all lines of other kinds, and what takes the words behind its first one for a network, and reports whether they have the form of the kind.
type kind struct {
	leads bool
	read  func(n *Network, next func() string) bool
}

func kinds() map[string]kind {
	return map[string]kind{
		"body":  {leads: true, read: readBody},
		"range": {read: readRange},
	}
}

// Parse returns the network of a text, and the index of the first line that is wrong.
func Parse(s string) (Network, int, api.Errno) {
	var n Network
	forms := kinds()
	read := func(next func() string) bool {
		form, known := forms[next()]
		late := form.leads && len(n.Ranges) > 0
		return known && !late && form.read(&n, next)
	}
	if at, e := common.ReadText(s, api.MaxText, read, func() api.Errno { return CheckNetwork(n) }); e != api.OK {
		return Network{}, at, e
	}
	return n, 0, api.OK
}

func readBody(n *Network, next func() string) bool {
	name := next()
	l, ok := readEnds(next)
	n.Bodies = append(n.Bodies, Body{Name: name, Box: l.box()})
	return ok && name != ""
}

func readRange(n *Network, next func() string) bool {
	l, ok := readEnds(next)
	n.Ranges = append(n.Ranges, Range{A: l[0], B: l[1], Square: api.Interval{Low: l[2], High: l[3]}})
	return ok
}

// readEnds takes four integers, and reports whether there are as many.
func readEnds(next func() string) (ends, bool) {
	var l ends
	ok := common.ReadNumbers(next, l[:], maxDigits)
	return l, ok
}
