package filter

import (
	"strings"

	"moveout/api"
	"moveout/common"
)

// maxDigits is how many digits an integer of a text has at most.
const maxDigits = 9

// Print returns the text of taps.
func Print(taps []int) (string, api.Errno) {
	if e := CheckTaps(taps); e != api.OK {
		return "", e
	}
	return common.JoinNumbers(taps), api.OK
}

// Parse returns the taps with a text.
func Parse(s string) ([]int, api.Errno) {
	if len(s) > api.MaxText {
		return nil, api.ErrLong
	}
	words := common.WordsOf(s)
	taps := make([]int, strings.Count(s, " ")+1)
	if !common.ReadNumbers(words.Next, taps, maxDigits) {
		return nil, api.ErrSyntax
	}
	if e := CheckTaps(taps); e != api.OK {
		return nil, e
	}
	return taps, api.OK
}
