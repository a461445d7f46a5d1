package trace

import (
	"slices"
	"strings"

	"moveout/api"
	"moveout/common"
)

// maxDigits is how many digits an integer of a text has at most.
const maxDigits = 9

// Print returns the text of a shot.
func Print(s Shot) (string, api.Errno) {
	if e := CheckShot(s); e != api.OK {
		return "", e
	}
	return "shot " + s.Name + "\n" + strings.Join(common.Each(s.Traces, printTrace), ""), api.OK
}

func printTrace(t Trace) string {
	word := "trace"
	if t.Hole {
		word = "hole"
	}
	numbers := slices.Concat(t.Header[:], common.Integers(t.Samples))
	return word + " " + common.PrintNumbers(numbers)
}

// kind is a kind of line: whether it opens a text, and what reads the words behind its first one into a shot, and reports whether they have the form of the kind.
type kind struct {
	opens bool
	read  func(s *Shot, words []string) bool
}

func kinds() map[string]kind {
	return map[string]kind{
		"shot":  {opens: true, read: readName},
		"trace": {read: readTrace},
		"hole":  {read: readHole},
	}
}

// Parse returns the shot of a text, and the index of the first line that is wrong.
func Parse(s string) (Shot, int, api.Errno) {
	if len(s) > api.MaxLog {
		return Shot{}, 0, api.ErrLong
	}
	lines := common.Lines(s)
	if len(lines) == 0 {
		return Shot{}, 0, api.ErrSyntax
	}
	var shot Shot
	forms := kinds()
	for i, line := range lines {
		text, ended := strings.CutSuffix(line, "\n")
		words := strings.Split(text, " ")
		form, known := forms[words[0]]
		if !ended || !known || form.opens != (i == 0) || !form.read(&shot, words[1:]) {
			return Shot{}, i, api.ErrSyntax
		}
	}
	if e := CheckShot(shot); e != api.OK {
		return Shot{}, len(lines), e
	}
	return shot, 0, api.OK
}

func readName(s *Shot, words []string) bool {
	if len(words) != 1 || words[0] == "" {
		return false
	}
	s.Name = words[0]
	return true
}

func readTrace(s *Shot, words []string) bool {
	l, ok := readIntegers(words)
	if !ok || len(l) < Headers {
		return false
	}
	// A float32 may round an integer that is not that of a sample, but never into the range of samples.
	t := Trace{Samples: common.Each(l[Headers:], common.Sample)}
	copy(t.Header[:], l)
	s.Traces = append(s.Traces, t)
	return true
}

func readHole(s *Shot, words []string) bool {
	l, ok := readIntegers(words)
	if !ok || len(l) != Headers {
		return false
	}
	t := Trace{Hole: true}
	copy(t.Header[:], l)
	s.Traces = append(s.Traces, t)
	return true
}

func readIntegers(words []string) ([]int, bool) {
	l := make([]int, len(words))
	for i, word := range words {
		n, ok := common.Number(word, maxDigits)
		if !ok {
			return nil, false
		}
		l[i] = n
	}
	return l, true
}
