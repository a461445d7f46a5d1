package trace_test

import (
	"math"
	"slices"
	"strings"
	"testing"

	"moveout/api"
	"moveout/trace"
)

// P1.1: IsName.
func TestNames(t *testing.T) {
	for _, s := range []string{"a", "z", "A", "Z", "S_1", "a0", "a9", "q__", strings.Repeat("x", 24)} {
		same(t, "IsName "+s, trace.IsName(s), true)
	}
	for _, s := range []string{"", "_", "_a", "0", "9a", "a-b", "a b", " a", "a ", "a\n", "a\x00", "é", "aé", "a\xff", "a٣", "@", "a[", "a`", "a{", "a/", "a:", "a@", strings.Repeat("x", 25)} {
		same(t, "IsName "+s, trace.IsName(s), false)
	}
}

// permutation follows the definition with exchanges of its own.
func permutation(key, n int) []int {
	l := make([]int, n)
	for i := range l {
		l[i] = i
	}
	x := uint64(key)
	for i := n - 1; i > 0; i-- {
		x = x * 742938285 % 2147483647
		at := int(x % uint64(i+1))
		held := l[at]
		l[at] = l[i]
		l[i] = held
	}
	return l
}

// P1.1: Draw.
func TestDraw(t *testing.T) {
	for _, x := range []struct {
		key, n int
		want   []int
	}{
		{1, 0, nil}, {1, 1, []int{0}}, {1, 2, []int{0, 1}}, {1, 3, []int{2, 1, 0}}, {1, 5, []int{3, 4, 2, 1, 0}},
		{7, 8, []int{4, 7, 6, 0, 1, 3, 2, 5}}, {12345, 10, []int{9, 8, 6, 3, 4, 0, 1, 7, 2, 5}}, {2147483646, 6, []int{2, 5, 1, 3, 0, 4}},
	} {
		l, e := trace.Draw(x.key, x.n)
		ok(t, "Draw", e)
		same(t, "Draw", l, x.want)
	}
	for _, key := range []int{1, 2, 99, 742938285, 2147483645, 2147483646} {
		l, e := trace.Draw(key, 256)
		ok(t, "Draw of 256", e)
		same(t, "Draw of 256", l, permutation(key, 256))
		slices.Sort(l)
		same(t, "the elements of Draw", l[255], 255)
	}
	for _, x := range [][2]int{{0, 2}, {-1, 2}, {2147483647, 2}, {math.MinInt, 2}, {math.MaxInt, 2}, {1, -1}, {1, 257}, {1, math.MaxInt}, {1, math.MinInt}, {0, -1}} {
		l, e := trace.Draw(x[0], x[1])
		same(t, "Draw out of range", e, api.ErrRange)
		same(t, "Draw out of range", len(l), 0)
	}
}

// P1.1: CheckRatio.
func TestRatios(t *testing.T) {
	for _, x := range []struct {
		num, den int
		e        api.Errno
	}{
		{0, 1, api.OK}, {1, 2, api.OK}, {-1, 2, api.OK}, {-3, 1, api.OK}, {999999999, 999999998, api.OK}, {-999999999, 1, api.OK}, {1, 999999999, api.OK},
		{0, 2, api.ErrForm}, {0, 999999999, api.ErrForm}, {2, 4, api.ErrForm}, {-2, 4, api.ErrForm}, {-9, 3, api.ErrForm}, {999999999, 999999999, api.ErrForm}, {999999999, 3, api.ErrForm},
		{1000000000, 1, api.ErrRange}, {-1000000000, 1, api.ErrRange}, {1, 0, api.ErrRange}, {1, -1, api.ErrRange}, {1, 1000000000, api.ErrRange}, {0, 0, api.ErrRange},
		{math.MinInt, math.MinInt, api.ErrRange}, {2, -2, api.ErrRange}, {1000000000, 2, api.ErrRange}, {2, 1000000000, api.ErrRange},
	} {
		same(t, "CheckRatio", [3]int{x.num, x.den, int(trace.CheckRatio(api.Ratio{Num: x.num, Den: x.den}))}, [3]int{x.num, x.den, int(x.e)})
	}
}

// P1.1: CheckSample.
func TestSamples(t *testing.T) {
	for _, x := range []float32{0, minus0, 0.0625, -0.0625, 1023.9375, 1024, -1024} {
		same(t, "CheckSample", trace.CheckSample(x), api.OK)
	}
	for _, x := range []float32{1024.0625, -1024.0625, 1025, 0.03125, -0.03125, 1.1, 1023.96875, math.MaxFloat32, -math.MaxFloat32, math.SmallestNonzeroFloat32} {
		same(t, "CheckSample out of range", trace.CheckSample(x), api.ErrRange)
	}
	for _, x := range []float32{nan, endless, -endless, math.Float32frombits(0x7f800001)} {
		same(t, "CheckSample of no number", trace.CheckSample(x), api.ErrForm)
	}
	for n := -16400; n <= 16400; n++ {
		want := api.OK
		if n < -16384 || n > 16384 {
			want = api.ErrRange
		}
		if e := trace.CheckSample(float32(n) / 16); e != want {
			t.Fatalf("CheckSample of the integer %d: got %d", n, e)
		}
	}
}
