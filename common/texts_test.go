package common_test

import (
	"slices"
	"strings"
	"testing"

	"moveout/api"
	"moveout/common"
)

func TestLines(t *testing.T) {
	for _, x := range []struct {
		s string
		l []string
	}{
		{"", nil}, {"\n", []string{"\n"}}, {"a\nb", []string{"a\n", "b"}}, {"a\n\nb\n", []string{"a\n", "\n", "b\n"}},
	} {
		if l := common.Lines(x.s); !slices.Equal(l, x.l) {
			t.Errorf("Lines of %q: got %q, want %q", x.s, l, x.l)
		}
	}
}

func TestNumber(t *testing.T) {
	for word, want := range map[string]int{"0": 0, "-1": -1, "999": 999, "-999": -999} {
		if n, ok := common.Number(word, 3); n != want || !ok {
			t.Errorf("Number of %q: got %d, %v", word, n, ok)
		}
	}
	for _, word := range []string{"", "-", "-0", "+1", "01", "-01", "1000", "-1000", "1.", "1_0", " 1", "99999999999999999999"} {
		if n, ok := common.Number(word, 3); n != 0 || ok {
			t.Errorf("Number of %q: got %d, %v", word, n, ok)
		}
	}
}

func TestDigits(t *testing.T) {
	for word, want := range map[string]int{"0": 0, "7": 7, "10": 10, "999": 999} {
		if n, ok := common.Digits(word, 3); n != want || !ok {
			t.Errorf("Digits of %q: got %d, %v", word, n, ok)
		}
	}
	for _, word := range []string{"", "-", "-0", "-1", "+1", "00", "01", "1000", "0001", "1.", "1_0", " 1", "1x", "/", ":", "\u0661", "\xff", "99999999999999999999"} {
		if n, ok := common.Digits(word, 3); n != 0 || ok {
			t.Errorf("Digits of %q: got %d, %v", word, n, ok)
		}
	}
	if n, ok := common.Digits("999999999999999999", 18); n != 999999999999999999 || !ok {
		t.Errorf("Digits of the greatest integer: got %d, %v", n, ok)
	}
}

func TestWords(t *testing.T) {
	for line, want := range map[string][]string{"": {""}, "a": {"a"}, "a b": {"a", "b"}, " a  b ": {"", "a", "", "b", ""}, "a\tb c": {"a\tb", "c"}} {
		w := common.WordsOf(line)
		var l []string
		for !w.Done() {
			l = append(l, w.Next())
		}
		if !slices.Equal(l, want) {
			t.Errorf("Words of %q: got %q, want %q", line, l, want)
		}
		if word := w.Next(); word != "" || !w.Done() {
			t.Errorf("a word behind all of %q: got %q", line, word)
		}
	}
}

func TestPrintNumbers(t *testing.T) {
	for want, l := range map[string][]int{"\n": nil, "7\n": {7}, "0 -12 999999999\n": {0, -12, 999999999}} {
		if got := common.PrintNumbers(l); got != want {
			t.Errorf("PrintNumbers of %v: got %q", l, got)
		}
		if got := common.JoinNumbers(l); got+"\n" != want {
			t.Errorf("JoinNumbers of %v: got %q", l, got)
		}
	}
}

func TestReadNumbers(t *testing.T) {
	for line, want := range map[string]bool{"1 -22 333": true, "1 -22 333 4": true, "1 -22": false, "1 -22 4444": false, "1 x 3": false, "": false} {
		var l [3]int
		words := common.WordsOf(line)
		if got := common.ReadNumbers(words.Next, l[:], 3); got != want || want && l != [3]int{1, -22, 333} {
			t.Errorf("ReadNumbers of %q: got %v, %v", line, l, got)
		}
	}
	words := common.WordsOf("1 2 3")
	if l := []int{}; !common.ReadNumbers(words.Next, l, 3) || words.Next() != "1" {
		t.Error("ReadNumbers of no numbers took a word")
	}
}

func TestReadText(t *testing.T) {
	for _, x := range []struct {
		s  string
		at int
		e  api.Errno
	}{
		{"", 0, api.OK}, {"a b\n", 0, api.OK}, {"a b\na c\n", 0, api.OK},
		{"a b", 0, api.ErrSyntax}, {"a b\na c", 1, api.ErrSyntax}, {"b a\n", 0, api.ErrSyntax}, {"a b\n\na b\n", 1, api.ErrSyntax}, {"a b c\n", 0, api.ErrSyntax}, {"a b \n", 0, api.ErrSyntax}, {" a b\n", 0, api.ErrSyntax},
		{"a x\n", 1, api.ErrKind}, {"a b\na x\na b\n", 3, api.ErrKind}, {"a x\nb\n", 1, api.ErrSyntax},
		{strings.Repeat("a b\n", 5), 0, api.OK}, {strings.Repeat("a b\n", 5) + "\n", 0, api.ErrLong}, {strings.Repeat("\n", 21), 0, api.ErrLong}, {strings.Repeat("\n", 20), 0, api.ErrSyntax},
	} {
		var l []string
		read := func(next func() string) bool {
			first := next()
			l = append(l, next())
			return first == "a"
		}
		check := func() api.Errno {
			if slices.Contains(l, "x") {
				return api.ErrKind
			}
			return api.OK
		}
		if at, e := common.ReadText(x.s, 20, read, check); at != x.at || e != x.e {
			t.Errorf("ReadText of %q: got %d, %d, want %d, %d", x.s, at, e, x.at, x.e)
		}
	}
}
