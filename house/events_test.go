package house_test

import (
	"slices"
	"strings"
	"testing"

	"moveout/api"
	"moveout/house"
)

// shapes are how many names and values the events of each kind have.
var shapes = map[string][2]int{
	"line": {1, 2}, "tape": {1, 2}, "shot": {3, 1}, "copy": {2, 1}, "accept": {1, 1}, "source": {2, 1}, "module": {2, 2}, "merge": {3, 1},
	"run": {2, 2}, "tile": {1, 3}, "fail": {1, 2}, "picture": {2, 1}, "release": {1, 1}, "undo": {0, 0},
}

// shaped returns an event with so many names and values.
func shaped(kind string, names, values int) api.Event {
	return api.Event{Number: 1, Kind: kind, Names: slices.Repeat(strs("a"), names), Values: slices.Repeat(ints(1), values)}
}

// badNames are no names.
var badNames = strs("", "1", "1a", "_a", "a b", "a-b", "\u00e4", "a\n", "a#", "a\x00", "\xff", " a", "abcdefghijklmnopqrstuvwxy")

// bad is an event with the error of CheckEvent.
type bad struct {
	what string
	x    api.Event
	e    api.Errno
}

// badEvents returns events with each error of CheckEvent, and with two where their order matters.
func badEvents() []bad {
	l := []bad{
		{"the zero value", api.Event{}, api.ErrRange},
		{"a number before the kind", api.Event{Number: 1001, Kind: "x"}, api.ErrRange},
		{"a kind before the shape", api.Event{Number: 1, Kind: "x", Names: strs(""), Values: ints(-1), Text: "x"}, api.ErrKind},
		{"a kind without names and values", api.Event{Number: 1, Kind: ""}, api.ErrKind},
		{"a name before a value", api.Event{Number: 1, Kind: "line", Names: strs("1"), Values: ints(-1, -1), Text: "x"}, api.ErrName},
		{"a value before the text", api.Event{Number: 1, Kind: "line", Names: strs("a"), Values: ints(1, -1), Text: "x"}, api.ErrRange},
	}
	for _, kind := range strs("", "Line", "lines", "line ", " line", "lin", "note", "left", "unsafe", "want", "released", "undo\n", "\xff", strings.Repeat("x", 10000)) {
		l = append(l, bad{"a kind", shaped(kind, 1, 2), api.ErrKind})
	}
	for kind, n := range shapes {
		l = append(l, badShapes(kind, n[0], n[1])...)
	}
	return l
}

// badShapes returns events of a kind with errors.
func badShapes(kind string, names, values int) []bad {
	var l []bad
	add := func(what string, e api.Errno, change func(x *api.Event)) {
		x := shaped(kind, names, values)
		change(&x)
		l = append(l, bad{what + " of " + kind, x, e})
	}
	for _, n := range outside(1, 1000) {
		add("a number", api.ErrRange, func(x *api.Event) { x.Number = n })
		add("a number before the shape", api.ErrRange, func(x *api.Event) { x.Number, x.Names, x.Text = n, make([]string, 9), "x" })
	}
	for _, n := range ints(0, 1, 2, 3, 4, 100) {
		if n != names {
			add("names", api.ErrShape, func(x *api.Event) { x.Names = slices.Repeat(strs("a"), n) })
			add("names that are none", api.ErrShape, func(x *api.Event) { x.Names = make([]string, n) })
		}
		if n != values {
			add("values", api.ErrShape, func(x *api.Event) { x.Values = make([]int, n) })
			add("values before a name", api.ErrShape, func(x *api.Event) { x.Values, x.Names = make([]int, n), make([]string, names) })
		}
	}
	for i := range names {
		for _, name := range badNames {
			add("a name", api.ErrName, func(x *api.Event) { x.Names[i] = name })
		}
	}
	for i := range values {
		for _, n := range outside(0, 999999999) {
			add("a value", api.ErrRange, func(x *api.Event) { x.Values[i] = n })
		}
	}
	for _, text := range strs("x", " ", "\x00", "undo") {
		add("a text", api.ErrForm, func(x *api.Event) { x.Text = text })
	}
	return l
}

// P10.1: CheckEvent.
func TestCheckEvent(t *testing.T) {
	for kind, n := range shapes {
		x := shaped(kind, n[0], n[1])
		same(t, "CheckEvent of "+kind, house.CheckEvent(x), api.OK)
		x.Number = 1000
		for i := range x.Names {
			x.Names[i] = "Z_9abcdefghijklmnopqrstu"
		}
		for i := range x.Values {
			x.Values[i] = 999999999 * (i % 2)
		}
		same(t, "CheckEvent of another "+kind, house.CheckEvent(x), api.OK)
	}
	same(t, "CheckEvent with no lists", house.CheckEvent(api.Event{Number: 1, Kind: "undo"}), api.OK)
	same(t, "CheckEvent with empty lists", house.CheckEvent(api.Event{Number: 1, Kind: "undo", Names: strs(), Values: ints()}), api.OK)
	for _, x := range badEvents() {
		same(t, "CheckEvent: "+x.what, house.CheckEvent(x.x), x.e)
		if x.x.Number == 1 {
			same(t, "Accepts: "+x.what, house.Accepts(nil, x.x), x.e)
			r, n, e := house.Replay([]api.Event{x.x, {}})
			fails(t, "Replay: "+x.what, e, x.e, r)
			same(t, "Replay: "+x.what, n, 1)
		}
	}
}
