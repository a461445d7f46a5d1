package house

import (
	"slices"
	"strconv"
	"strings"

	"moveout/api"
	"moveout/common"
)

// The numbers of the checksum.
const (
	sumFactor  = 339
	sumModulus = 9999749
	sumDigits  = 7
)

// maxDigits is how many digits an integer of a log has at most.
const maxDigits = 9

func checksum(s string) string {
	sum := strconv.Itoa(common.Checksum([]byte(s), sumFactor, sumModulus))
	return strings.Repeat("0", sumDigits-len(sum)) + sum
}

func body(e api.Event) string {
	words := slices.Concat([]string{strconv.Itoa(e.Number), e.Kind}, e.Names, common.Each(e.Values, strconv.Itoa))
	return strings.Join(words, " ")
}

func record(e api.Event) string {
	return body(e) + "#" + checksum(body(e)) + "\n"
}

// readNames fills a list with words that are taken, and reports whether none of them is empty.
func readNames(next func() string, l []string) bool {
	for i := range l {
		l[i] = next()
	}
	return !slices.Contains(l, "")
}

// readValues fills a list with words that are taken, and reports whether all of them are integers of a log.
func readValues(next func() string, l []int) bool {
	for i := range l {
		n, is := common.Digits(next(), maxDigits)
		if !is {
			return false
		}
		l[i] = n
	}
	return true
}

// readEvent returns the event of a kind whose names and values are the words that are left, and whether they are.
func readEvent(number int, kind string, words *common.Words) (api.Event, bool) {
	k := kinds()[kind]
	e := api.Event{Number: number, Kind: kind, Names: make([]string, k.names()), Values: make([]int, k.values)}
	is := readNames(words.Next, e.Names) && readValues(words.Next, e.Values) && words.Done()
	return e, is
}

// readBody returns the event of a body, and whether it is one without an error.
func readBody(s string) (api.Event, bool) {
	words := common.WordsOf(s)
	number, isNumber := common.Digits(words.Next(), maxDigits)
	kind := words.Next()
	e, is := readEvent(number, kind, words)
	return e, isNumber && is && CheckEvent(e) == api.OK
}

func areDigits(s string) bool {
	for _, r := range s {
		if r < '0' || r > '9' {
			return false
		}
	}
	return true
}

// readRecord returns the event of a line of a log that has to have a number, or the first error.
func readRecord(line string, number int) (api.Event, api.Errno) {
	text, ended := strings.CutSuffix(line, "\n")
	if !ended {
		return api.Event{}, api.ErrTorn
	}
	at := len(text) - sumDigits - 1
	if at < 0 || text[at] != '#' || !areDigits(text[at+1:]) {
		return api.Event{}, api.ErrSyntax
	}
	if checksum(text[:at]) != text[at+1:] {
		return api.Event{}, api.ErrCheck
	}
	x, is := readBody(text[:at])
	return x, common.First(when(!is, api.ErrSyntax), when(x.Number != number, api.ErrOrder))
}

// Recover returns the events of the longest prefix that is a log.
func Recover(log string) ([]api.Event, int, api.Errno) {
	if len(log) > api.MaxLog {
		return nil, 0, api.ErrLong
	}
	var l []api.Event
	whole := 0
	for _, line := range common.Lines(log) {
		x, e := readRecord(line, len(l)+1)
		if e != api.OK {
			return l, whole, e
		}
		l = append(l, x)
		whole += len(line)
	}
	return l, whole, api.OK
}

// Append returns a log with one more record.
func Append(log string, e api.Event) (string, api.Errno) {
	l, _, bad := Recover(log)
	if bad := common.First(bad, CheckEvent(e), when(e.Number != len(l)+1, api.ErrOrder)); bad != api.OK {
		return "", bad
	}
	longer := log + record(e)
	if len(longer) > api.MaxLog {
		return "", api.ErrLong
	}
	return longer, api.OK
}
