package common_test

import (
	"cmp"
	"math"
	"slices"
	"strconv"
	"testing"

	"moveout/api"
	"moveout/common"
)

func TestFirst(t *testing.T) {
	for _, x := range []struct {
		l []api.Errno
		e api.Errno
	}{
		{nil, api.OK},
		{[]api.Errno{api.OK, api.OK}, api.OK},
		{[]api.Errno{api.OK, api.ErrZero, api.ErrForm}, api.ErrZero},
	} {
		if e := common.First(x.l...); e != x.e {
			t.Errorf("First of %v: got %d, want %d", x.l, e, x.e)
		}
	}
}

func TestFirstOf(t *testing.T) {
	var asked []int
	check := func(x int) api.Errno {
		asked = append(asked, x)
		return api.Errno(x)
	}
	if e := common.FirstOf([]int{0, 0, 5, 3}, check); e != api.ErrMany {
		t.Errorf("FirstOf: got %d", e)
	}
	if !slices.Equal(asked, []int{0, 0, 5}) {
		t.Errorf("FirstOf asked %v", asked)
	}
	if e := common.FirstOf([]int{0, 0}, check); e != api.OK {
		t.Errorf("FirstOf without an error: got %d", e)
	}
}

func TestEach(t *testing.T) {
	if l := common.Each([]int{1, -2}, strconv.Itoa); !slices.Equal(l, []string{"1", "-2"}) {
		t.Errorf("Each: got %v", l)
	}
}

func TestCheckRange(t *testing.T) {
	for x, want := range map[int]api.Errno{-3: api.ErrRange, -2: api.OK, 4: api.OK, 5: api.ErrRange} {
		if e := common.CheckRange(x, -2, 4); e != want {
			t.Errorf("CheckRange of %d: got %d, want %d", x, e, want)
		}
	}
}

func TestLowest(t *testing.T) {
	for x, want := range map[api.Ratio]api.Ratio{
		{Num: 12, Den: 8}: {Num: 3, Den: 2}, {Num: -12, Den: 8}: {Num: -3, Den: 2}, {Num: 0, Den: 7}: {Num: 0, Den: 1}, {Num: 8, Den: 4}: {Num: 2, Den: 1}, {Num: 5, Den: 7}: {Num: 5, Den: 7}, {Num: 3, Den: 9}: {Num: 1, Den: 3},
	} {
		if r := common.Lowest(x); r != want {
			t.Errorf("Lowest of %v: got %v, want %v", x, r, want)
		}
	}
}

func TestCheckIndices(t *testing.T) {
	for _, x := range []struct {
		l []int
		e api.Errno
	}{
		{nil, api.OK}, {[]int{0}, api.OK}, {[]int{3}, api.OK}, {[]int{0, 1, 3}, api.OK},
		{[]int{4}, api.ErrUnknown}, {[]int{-1}, api.ErrUnknown}, {[]int{math.MinInt}, api.ErrUnknown}, {[]int{0, math.MaxInt}, api.ErrUnknown},
		{[]int{0, 0}, api.ErrOrder}, {[]int{1, 3, 2}, api.ErrOrder},
		{[]int{1, 0, 4}, api.ErrOrder}, {[]int{1, 4, 0}, api.ErrUnknown}, {[]int{1, -1}, api.ErrUnknown},
	} {
		if e := common.CheckIndices(x.l, 4); e != x.e {
			t.Errorf("CheckIndices of %v: got %d, want %d", x.l, e, x.e)
		}
	}
	if e := common.CheckIndex(0, 0); e != api.ErrUnknown {
		t.Errorf("CheckIndex of no elements: got %d", e)
	}
}

func TestCheckAscending(t *testing.T) {
	check := func(x int) api.Errno { return common.CheckRange(x, -5, 5) }
	for _, x := range []struct {
		l []int
		e api.Errno
	}{
		{nil, api.OK}, {[]int{-5, 0, 5}, api.OK}, {[]int{-6, 0}, api.ErrRange}, {[]int{0, 0}, api.ErrOrder}, {[]int{2, 1, 6}, api.ErrOrder}, {[]int{2, 6, 1}, api.ErrRange}, {[]int{2, -6}, api.ErrRange},
	} {
		if e := common.CheckAscending(x.l, cmp.Compare[int], check); e != x.e {
			t.Errorf("CheckAscending of %v: got %d, want %d", x.l, e, x.e)
		}
	}
}

func TestCheckSuccessive(t *testing.T) {
	check := func(x int) api.Errno { return common.CheckRange(x, 0, 9) }
	next := func(x, before int) bool { return x == before+1 }
	for _, x := range []struct {
		l []int
		e api.Errno
	}{
		{nil, api.OK}, {[]int{9}, api.OK}, {[]int{3, 4, 5}, api.OK}, {[]int{10}, api.ErrRange}, {[]int{3, 4, 4}, api.ErrOrder}, {[]int{4, 3}, api.ErrOrder}, {[]int{9, 10}, api.ErrRange}, {[]int{3, 10}, api.ErrRange}, {[]int{3, 5, 10}, api.ErrOrder}, {[]int{3, 4, -1, 4}, api.ErrRange},
	} {
		if e := common.CheckSuccessive(x.l, next, check); e != x.e {
			t.Errorf("CheckSuccessive of %v: got %d, want %d", x.l, e, x.e)
		}
	}
}

// Elements that are no numbers ascend as the function says that compares them.
func TestCheckAscendingElements(t *testing.T) {
	shorter := func(a, b string) int { return cmp.Compare(len(a), len(b)) }
	check := func(s string) api.Errno { return common.CheckRange(len(s), 1, 3) }
	for _, x := range []struct {
		l []string
		e api.Errno
	}{
		{[]string{"b", "aa", "abc"}, api.OK}, {[]string{"a", "b"}, api.ErrOrder}, {[]string{"aa", "b"}, api.ErrOrder}, {[]string{"a", ""}, api.ErrRange}, {[]string{"aa", "b", "abcd"}, api.ErrOrder},
	} {
		if e := common.CheckAscending(x.l, shorter, check); e != x.e {
			t.Errorf("CheckAscending of %v: got %d, want %d", x.l, e, x.e)
		}
	}
}

func TestCheckCount(t *testing.T) {
	for n, want := range map[int]api.Errno{0: api.ErrEmpty, 1: api.OK, 4: api.OK, 5: api.ErrMany} {
		if e := common.CheckCount(n, 4); e != want {
			t.Errorf("CheckCount of %d: got %d, want %d", n, e, want)
		}
	}
}

func TestSubset(t *testing.T) {
	l := []string{"a", "b", "c"}
	for set, want := range [][]string{nil, {"c"}, {"b"}, {"b", "c"}, {"a"}, {"a", "c"}, {"a", "b"}, {"a", "b", "c"}} {
		if got := common.Subset(l, set); !slices.Equal(got, want) {
			t.Errorf("Subset %d: got %v, want %v", set, got, want)
		}
	}
}

func TestFloor(t *testing.T) {
	for x, want := range map[[2]int]int{{7, 3}: 2, {6, 3}: 2, {0, 3}: 0, {-1, 3}: -1, {-3, 3}: -1, {-4, 3}: -2, {-7, 1}: -7} {
		if got := common.Floor(x[0], x[1]); got != want {
			t.Errorf("Floor of %v: got %d, want %d", x, got, want)
		}
	}
}

func TestRounded(t *testing.T) {
	for x, want := range map[[2]int]int{{0, 3}: 0, {1, 3}: 0, {2, 3}: 1, {-1, 3}: 0, {-2, 3}: -1, {1, 2}: 1, {-1, 2}: 0, {3, 2}: 2, {-3, 2}: -1, {-7, 1}: -7, {512, 1024}: 1, {511, 1024}: 0, {-512, 1024}: 0, {-513, 1024}: -1} {
		if got := common.Rounded(x[0], x[1]); got != want {
			t.Errorf("Rounded of %v: got %d, want %d", x, got, want)
		}
	}
}

func TestDivisor(t *testing.T) {
	for _, x := range []struct {
		l    []int
		want int
	}{
		{nil, 0}, {[]int{0, 0}, 0}, {[]int{6}, 6}, {[]int{-6}, 6}, {[]int{4, 6}, 2}, {[]int{6, 4}, 2}, {[]int{0, 5}, 5}, {[]int{5, 0}, 5}, {[]int{12, -18, 8}, 2}, {[]int{12, 18, -7}, 1}, {[]int{-1 << 39, 1 << 39, 1 << 38}, 1 << 38},
	} {
		if got := common.Divisor(x.l...); got != x.want {
			t.Errorf("Divisor of %v: got %d, want %d", x.l, got, x.want)
		}
	}
}

func TestInner(t *testing.T) {
	for _, x := range []struct {
		a, b []int
		want int
	}{
		{nil, nil, 0}, {[]int{7}, []int{-6}, -42}, {[]int{1, 2, 3}, []int{3, -4, 0}, -5}, {slices.Repeat([]int{1 << 24}, 4096), slices.Repeat([]int{-1 << 24}, 4096), -1 << 60},
	} {
		if got := common.Inner(x.a, x.b); got != x.want {
			t.Errorf("Inner: got %d, want %d", got, x.want)
		}
	}
}

func TestChecksum(t *testing.T) {
	for _, x := range []struct {
		l    []int
		want int
	}{
		{nil, 1}, {[]int{0}, 257}, {[]int{5, 6}, 67340}, {[]int{5, 6, 7}, 529174}, {[]int{999999999, 0}, 6717058},
	} {
		if got := common.Checksum(x.l, 257, 16777213); got != x.want {
			t.Errorf("Checksum of %v: got %d, want %d", x.l, got, x.want)
		}
	}
	for s, want := range map[string]int{"": 1, "1": 388, "11": 131581, "\xff": 594} {
		if got := common.Checksum([]byte(s), 339, 9999749); got != want {
			t.Errorf("Checksum of %q: got %d, want %d", s, got, want)
		}
	}
}

func TestSquared(t *testing.T) {
	a, b := api.Point{X: 1, Y: -2}, api.Point{X: -2, Y: 2}
	if x, y := common.Squared(a, b), common.Squared(b, a); x != 25 || y != 25 {
		t.Errorf("Squared: got %d and %d", x, y)
	}
	far := api.Point{X: api.MaxPlace, Y: api.MaxPlace}
	if x := common.Squared(far, api.Point{X: -far.X, Y: -far.Y}); x != 80000000000 {
		t.Errorf("Squared of corners: got %d", x)
	}
}

func TestRollCall(t *testing.T) {
	check := func(n int) api.Errno { return common.CheckRange(n, 0, 99) }
	call := common.RollCall(check, func(n int) string { return strconv.Itoa(n % 10) })
	for _, x := range []struct {
		n int
		e api.Errno
	}{{3, api.OK}, {13, api.ErrTwice}, {4, api.OK}, {105, api.ErrRange}, {5, api.OK}, {103, api.ErrRange}, {3, api.ErrTwice}, {15, api.ErrTwice}} {
		if got := call(x.n); got != x.e {
			t.Errorf("RollCall of %d: got %d, want %d", x.n, got, x.e)
		}
	}
	if e := common.RollCall(check, strconv.Itoa)(3); e != api.OK {
		t.Errorf("another RollCall of 3: got %d", e)
	}
}
