package house

import (
	"slices"

	"moveout/api"
	"moveout/common"
	"moveout/trace"
)

// maxParts is how many names, and how many values, an event has at most.
const maxParts = 3

// act is what an event says: all of it but its number. Names and values that its kind does not have are "" and 0.
type act struct {
	kind   string
	names  [maxParts]string
	values [maxParts]int
}

// actOf returns what an event without an error says.
func actOf(e api.Event) act {
	a := act{kind: e.Kind}
	copy(a.names[:], e.Names)
	copy(a.values[:], e.Values)
	return a
}

// event returns the event with a number.
func (a act) event(number int) api.Event {
	k := kinds()[a.kind]
	return api.Event{Number: number, Kind: a.kind, Names: slices.Clone(a.names[:k.names()]), Values: slices.Clone(a.values[:k.values])}
}

// tick returns the tick at which an act happens; it is 0 for an undo, which happens at none.
func (a act) tick() int {
	return a.values[0]
}

// isAbout reports whether an act belongs to the story of a line.
func (a act) isAbout(line string) bool {
	switch a.kind {
	case kindLine, kindAccept:
		return a.names == [maxParts]string{line}
	case kindShot, kindSource:
		return a.names[1] == line
	}
	return a.kind == kindTape || a.kind == kindCopy
}

func checkName(name string) api.Errno {
	return when(!trace.IsName(name), api.ErrName)
}

func checkNumber(n int) api.Errno {
	return common.CheckRange(n, 0, api.MaxNumber)
}

// CheckEvent returns the first error of an event by itself, or OK.
func CheckEvent(e api.Event) api.Errno {
	k, is := kinds()[e.Kind]
	if bad := common.First(
		common.CheckRange(e.Number, 1, api.MaxEvents),
		when(!is, api.ErrKind),
		when(len(e.Names) != k.names() || len(e.Values) != k.values, api.ErrShape),
	); bad != api.OK {
		return bad
	}
	return common.First(
		common.FirstOf(e.Names, checkName),
		common.FirstOf(e.Values, checkNumber),
		when(e.Text != "", api.ErrForm),
	)
}
