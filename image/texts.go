package image

import (
	"slices"

	"moveout/api"
	"moveout/common"
)

// maxDigits is how many digits an integer of a text has at most.
const maxDigits = 9

// Print returns the text of a ground.
func Print(g Ground) (string, api.Errno) {
	if e := CheckGround(g); e != api.OK {
		return "", e
	}
	s := "ground " + common.PrintNumbers([]int{g.Columns, g.Rows})
	for row := range slices.Chunk(g.Slow, g.Columns) {
		s += "row " + common.PrintNumbers(row)
	}
	return s, api.OK
}

// text is the ground of a text as far as it has been read, and the number of its lines.
type text struct {
	ground Ground
	lines  int
}

// Parse returns the ground of a text, and the index of the first line that is wrong.
func Parse(s string) (Ground, int, api.Errno) {
	var t text
	if at, e := common.ReadText(s, api.MaxText, t.read, t.check); e != api.OK {
		return Ground{}, at, e
	}
	return t.ground, 0, api.OK
}

// read takes the words of the next line, and reports whether they have its form.
func (t *text) read(next func() string) bool {
	t.lines++
	if t.lines == 1 {
		size, ok := readLine(next, "ground", 2)
		if ok {
			t.ground.Columns, t.ground.Rows = size[0], size[1]
		}
		return ok
	}
	row, ok := readLine(next, "row", t.ground.Columns)
	t.ground.Slow = append(t.ground.Slow, row...)
	return ok
}

// readLine takes a word and so many integers, and reports whether there are these.
func readLine(next func() string, word string, numbers int) ([]int, bool) {
	if next() != word {
		return nil, false
	}
	var l []int
	// Only as many integers are made room for as there are: a text may ask for more than memory holds.
	for range numbers {
		n, ok := common.Digits(next(), maxDigits)
		if !ok {
			return nil, false
		}
		l = append(l, n)
	}
	return l, true
}

// check returns the error of a text all of whose lines have their form, or OK.
func (t *text) check() api.Errno {
	switch {
	case t.lines == 0:
		return api.ErrSyntax
	case t.lines-1 != t.ground.Rows:
		return api.ErrShape
	}
	return CheckGround(t.ground)
}
