package horizon

import (
	"strings"

	"moveout/api"
	"moveout/common"
)

// maxDigits is how many digits an integer of a text has at most.
const maxDigits = 9

// Print returns the text of horizons.
func Print(l []Horizon) (string, api.Errno) {
	if e := CheckHorizons(l); e != api.OK {
		return "", e
	}
	return strings.Join(common.Each(l, printHorizon), ""), api.OK
}

func printHorizon(h Horizon) string {
	return "horizon " + h.Name + " " + common.PrintNumbers([]int{h.Error}) + strings.Join(common.Each(h.Picks, printPick), "")
}

func printPick(p Pick) string {
	return "pick " + common.PrintNumbers([]int{p.Place, p.Time})
}

// form is a form of lines: what takes the words behind the first one for horizons that were read, and reports whether they have this form.
type form struct {
	read func(l *[]Horizon, next func() string) bool
}

func forms() map[string]form {
	return map[string]form{
		"horizon": {read: readHorizon},
		"pick":    {read: readPick},
	}
}

// Parse returns the horizons of a text, and the index of the first line that is wrong.
func Parse(s string) ([]Horizon, int, api.Errno) {
	var l []Horizon
	known := forms()
	read := func(next func() string) bool {
		form, is := known[next()]
		return is && form.read(&l, next)
	}
	if at, e := common.ReadText(s, api.MaxLog, read, func() api.Errno { return CheckHorizons(l) }); e != api.OK {
		return nil, at, e
	}
	return l, 0, api.OK
}

func readHorizon(l *[]Horizon, next func() string) bool {
	name := next()
	n, ok := common.Digits(next(), maxDigits)
	*l = append(*l, Horizon{Name: name, Error: n})
	return ok && name != ""
}

func readPick(l *[]Horizon, next func() string) bool {
	place, isPlace := common.Digits(next(), maxDigits)
	time, isTime := common.Digits(next(), maxDigits)
	if len(*l) == 0 {
		return false
	}
	last := &(*l)[len(*l)-1]
	last.Picks = append(last.Picks, Pick{Place: place, Time: time})
	return isPlace && isTime
}
