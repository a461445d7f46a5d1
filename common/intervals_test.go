package common_test

import (
	"math"
	"testing"

	"moveout/api"
	"moveout/common"
)

func TestIsIn(t *testing.T) {
	for n, want := range map[int]bool{math.MinInt: false, -3: false, -2: true, 0: true, 4: true, 5: false, math.MaxInt: false} {
		if got := common.IsIn(n, api.Interval{Low: -2, High: 4}); got != want {
			t.Errorf("IsIn of %d: got %t, want %t", n, got, want)
		}
	}
	if common.IsIn(3, api.Interval{Low: 4, High: 2}) {
		t.Error("IsIn: 3 is from 4 to 2")
	}
}

func TestCheckOrder(t *testing.T) {
	for x, want := range map[api.Interval]api.Errno{{Low: 1, High: 2}: api.OK, {Low: 2, High: 2}: api.OK, {Low: 3, High: 2}: api.ErrOrder, {Low: math.MinInt, High: math.MaxInt}: api.OK, {Low: math.MaxInt, High: math.MinInt}: api.ErrOrder} {
		if got := common.CheckOrder(x); got != want {
			t.Errorf("CheckOrder of %v: got %d, want %d", x, got, want)
		}
	}
}

func TestCheckInterval(t *testing.T) {
	for x, want := range map[api.Interval]api.Errno{
		{Low: -2, High: 4}: api.OK, {Low: 3, High: 3}: api.OK, {Low: -3, High: 4}: api.ErrRange, {Low: -2, High: 5}: api.ErrRange, {Low: 5, High: 5}: api.ErrRange, {Low: 5, High: 1}: api.ErrRange, {Low: 1, High: -3}: api.ErrRange, {Low: 4, High: 3}: api.ErrOrder,
	} {
		if got := common.CheckInterval(x, -2, 4); got != want {
			t.Errorf("CheckInterval of %v: got %d, want %d", x, got, want)
		}
	}
}
