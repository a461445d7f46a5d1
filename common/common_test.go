package common_test

import (
	"math"
	"slices"
	"strconv"
	"testing"

	"moveout/api"
	"moveout/common"
)

func TestFirst(t *testing.T) {
	for _, x := range []struct {
		l []api.Errno
		e api.Errno
	}{
		{nil, api.OK},
		{[]api.Errno{api.OK, api.OK}, api.OK},
		{[]api.Errno{api.OK, api.ErrZero, api.ErrForm}, api.ErrZero},
	} {
		if e := common.First(x.l...); e != x.e {
			t.Errorf("First of %v: got %d, want %d", x.l, e, x.e)
		}
	}
}

func TestFirstOf(t *testing.T) {
	var asked []int
	check := func(x int) api.Errno {
		asked = append(asked, x)
		return api.Errno(x)
	}
	if e := common.FirstOf([]int{0, 0, 5, 3}, check); e != api.ErrMany {
		t.Errorf("FirstOf: got %d", e)
	}
	if !slices.Equal(asked, []int{0, 0, 5}) {
		t.Errorf("FirstOf asked %v", asked)
	}
	if e := common.FirstOf([]int{0, 0}, check); e != api.OK {
		t.Errorf("FirstOf without an error: got %d", e)
	}
}

func TestEach(t *testing.T) {
	if l := common.Each([]int{1, -2}, strconv.Itoa); !slices.Equal(l, []string{"1", "-2"}) {
		t.Errorf("Each: got %v", l)
	}
}

func TestCheckRange(t *testing.T) {
	for x, want := range map[int]api.Errno{-3: api.ErrRange, -2: api.OK, 4: api.OK, 5: api.ErrRange} {
		if e := common.CheckRange(x, -2, 4); e != want {
			t.Errorf("CheckRange of %d: got %d, want %d", x, e, want)
		}
	}
}

func TestLines(t *testing.T) {
	for _, x := range []struct {
		s string
		l []string
	}{
		{"", nil}, {"\n", []string{"\n"}}, {"a\nb", []string{"a\n", "b"}}, {"a\n\nb\n", []string{"a\n", "\n", "b\n"}},
	} {
		if l := common.Lines(x.s); !slices.Equal(l, x.l) {
			t.Errorf("Lines of %q: got %q, want %q", x.s, l, x.l)
		}
	}
}

func TestNumber(t *testing.T) {
	for word, want := range map[string]int{"0": 0, "-1": -1, "999": 999, "-999": -999} {
		if n, ok := common.Number(word, 3); n != want || !ok {
			t.Errorf("Number of %q: got %d, %v", word, n, ok)
		}
	}
	for _, word := range []string{"", "-", "-0", "+1", "01", "-01", "1000", "-1000", "1.", "1_0", " 1", "99999999999999999999"} {
		if n, ok := common.Number(word, 3); n != 0 || ok {
			t.Errorf("Number of %q: got %d, %v", word, n, ok)
		}
	}
}

func TestLowest(t *testing.T) {
	for x, want := range map[api.Ratio]api.Ratio{
		{Num: 12, Den: 8}: {Num: 3, Den: 2}, {Num: -12, Den: 8}: {Num: -3, Den: 2}, {Num: 0, Den: 7}: {Num: 0, Den: 1}, {Num: 8, Den: 4}: {Num: 2, Den: 1}, {Num: 5, Den: 7}: {Num: 5, Den: 7}, {Num: 3, Den: 9}: {Num: 1, Den: 3},
	} {
		if r := common.Lowest(x); r != want {
			t.Errorf("Lowest of %v: got %v, want %v", x, r, want)
		}
	}
}

func TestSamples(t *testing.T) {
	for n, x := range map[int]float32{0: 0, 1: 0.0625, -1: -0.0625, 24: 1.5, -16384: -1024, 65536: 4096} {
		if got := common.Sample(n); got != x || math.Signbit(float64(got)) != (n < 0) {
			t.Errorf("Sample of %d: got %v, want %v", n, got, x)
		}
		if got := common.Integer(x); got != n {
			t.Errorf("Integer of %v: got %d, want %d", x, got, n)
		}
	}
	if got := common.Integer(float32(math.Copysign(0, -1))); got != 0 {
		t.Errorf("Integer of -0: got %d", got)
	}
}

func TestWords(t *testing.T) {
	for line, want := range map[string][]string{"": {""}, "a": {"a"}, "a b": {"a", "b"}, " a  b ": {"", "a", "", "b", ""}, "a\tb c": {"a\tb", "c"}} {
		w := common.WordsOf(line)
		var l []string
		for !w.Done() {
			l = append(l, w.Next())
		}
		if !slices.Equal(l, want) {
			t.Errorf("Words of %q: got %q, want %q", line, l, want)
		}
		if word := w.Next(); word != "" || !w.Done() {
			t.Errorf("a word behind all of %q: got %q", line, word)
		}
	}
}
