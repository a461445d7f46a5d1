package common_test

import (
	"slices"
	"strconv"
	"testing"

	"moveout/api"
	"moveout/common"
)

func TestFirst(t *testing.T) {
	for _, x := range []struct {
		l []api.Errno
		e api.Errno
	}{
		{nil, api.OK},
		{[]api.Errno{api.OK, api.OK}, api.OK},
		{[]api.Errno{api.OK, api.ErrZero, api.ErrForm}, api.ErrZero},
	} {
		if e := common.First(x.l...); e != x.e {
			t.Errorf("First of %v: got %d, want %d", x.l, e, x.e)
		}
	}
}

func TestFirstOf(t *testing.T) {
	var asked []int
	check := func(x int) api.Errno {
		asked = append(asked, x)
		return api.Errno(x)
	}
	if e := common.FirstOf([]int{0, 0, 5, 3}, check); e != api.ErrMany {
		t.Errorf("FirstOf: got %d", e)
	}
	if !slices.Equal(asked, []int{0, 0, 5}) {
		t.Errorf("FirstOf asked %v", asked)
	}
	if e := common.FirstOf([]int{0, 0}, check); e != api.OK {
		t.Errorf("FirstOf without an error: got %d", e)
	}
}

func TestEach(t *testing.T) {
	if l := common.Each([]int{1, -2}, strconv.Itoa); !slices.Equal(l, []string{"1", "-2"}) {
		t.Errorf("Each: got %v", l)
	}
}

func TestCheckRange(t *testing.T) {
	for x, want := range map[int]api.Errno{-3: api.ErrRange, -2: api.OK, 4: api.OK, 5: api.ErrRange} {
		if e := common.CheckRange(x, -2, 4); e != want {
			t.Errorf("CheckRange of %d: got %d, want %d", x, e, want)
		}
	}
}

func TestLines(t *testing.T) {
	for _, x := range []struct {
		s string
		l []string
	}{
		{"", nil}, {"\n", []string{"\n"}}, {"a\nb", []string{"a\n", "b"}}, {"a\n\nb\n", []string{"a\n", "\n", "b\n"}},
	} {
		if l := common.Lines(x.s); !slices.Equal(l, x.l) {
			t.Errorf("Lines of %q: got %q, want %q", x.s, l, x.l)
		}
	}
}

func TestInteger(t *testing.T) {
	for word, want := range map[string]int{"0": 0, "-1": -1, "999": 999, "-999": -999} {
		if n, ok := common.Integer(word, 3); n != want || !ok {
			t.Errorf("Integer of %q: got %d, %v", word, n, ok)
		}
	}
	for _, word := range []string{"", "-", "-0", "+1", "01", "-01", "1000", "-1000", "1.", "1_0", " 1", "99999999999999999999"} {
		if n, ok := common.Integer(word, 3); n != 0 || ok {
			t.Errorf("Integer of %q: got %d, %v", word, n, ok)
		}
	}
}
