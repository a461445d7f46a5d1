package common_test

import (
	"math"
	"slices"
	"testing"

	"moveout/api"
	"moveout/common"
)

var (
	nan     = float32(math.NaN())
	endless = float32(math.Inf(1))
	minus0  = float32(math.Copysign(0, -1))
)

func TestSample(t *testing.T) {
	for n, x := range map[int]float32{0: 0, 1: 0.0625, -1: -0.0625, 24: 1.5, -16384: -1024, 65536: 4096} {
		if got := common.Sample(n); got != x || math.Signbit(float64(got)) != (n < 0) {
			t.Errorf("Sample of %d: got %v, want %v", n, got, x)
		}
		if got := common.Integer(x); got != n {
			t.Errorf("Integer of %v: got %d, want %d", x, got, n)
		}
	}
	if got := common.Integer(minus0); got != 0 {
		t.Errorf("Integer of -0: got %d", got)
	}
}

func TestSamples(t *testing.T) {
	list, numbers := []float32{0.0625, -1024, 1024, 0}, []int{1, -16384, 16384, 0}
	if got := common.Integers(list); !slices.Equal(got, numbers) {
		t.Errorf("Integers: got %v", got)
	}
	if got, e := common.Samples(numbers); e != api.OK || !slices.Equal(got, list) {
		t.Errorf("Samples: got %v, %d", got, e)
	}
	for _, n := range []int{16385, -16385, math.MaxInt, math.MinInt} {
		if got, e := common.Samples([]int{1, n}); e != api.ErrLarge || len(got) > 0 {
			t.Errorf("Samples of %d: got %v, %d", n, got, e)
		}
	}
}

func TestCheckGrains(t *testing.T) {
	for _, x := range []struct {
		n float32
		e api.Errno
	}{
		{0, api.OK}, {minus0, api.OK}, {1.25, api.OK}, {-1.25, api.OK}, {0.0625, api.OK}, {1.3125, api.ErrRange}, {-1.3125, api.ErrRange}, {0.03125, api.ErrRange}, {math.MaxFloat32, api.ErrRange}, {math.SmallestNonzeroFloat32, api.ErrRange}, {nan, api.ErrForm}, {endless, api.ErrForm}, {-endless, api.ErrForm},
	} {
		if e := common.CheckGrains(x.n, 20); e != x.e {
			t.Errorf("CheckGrains of %v: got %d, want %d", x.n, e, x.e)
		}
	}
}

func TestDelayed(t *testing.T) {
	l := []int{1, 2, 3, 4}
	for n, want := range map[int][]int{0: {1, 2, 3, 4}, 1: {0, 1, 2, 3}, 3: {0, 0, 0, 1}, 4: {0, 0, 0, 0}, 9: {0, 0, 0, 0}, -1: {2, 3, 4, 0}, -3: {4, 0, 0, 0}, -4: {0, 0, 0, 0}, -9: {0, 0, 0, 0}} {
		if got := common.Delayed(l, n); !slices.Equal(got, want) {
			t.Errorf("Delayed by %d: got %v, want %v", n, got, want)
		}
	}
	if got := common.Delayed(nil, 1); len(got) > 0 {
		t.Errorf("Delayed of nothing: got %v", got)
	}
	common.Delayed(l, 0)[0] = 9
	if l[0] != 1 {
		t.Error("Delayed returns its argument")
	}
}
