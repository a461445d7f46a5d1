package common_test

import (
	"math"
	"testing"

	"moveout/api"
	"moveout/common"
)

func TestCheckSpan(t *testing.T) {
	for x, want := range map[api.Span]api.Errno{
		{From: 0, To: 5}: api.OK, {From: 0, To: 1}: api.OK, {From: 4, To: 5}: api.OK, {From: 1, To: 4}: api.OK,
		{From: -1, To: 3}: api.ErrSpan, {From: 0, To: 6}: api.ErrSpan, {From: 3, To: 2}: api.ErrSpan, {From: 5, To: 6}: api.ErrSpan, {From: 6, To: 5}: api.ErrSpan, {From: -2, To: -1}: api.ErrSpan,
		{From: math.MinInt, To: math.MaxInt}: api.ErrSpan, {From: math.MaxInt, To: math.MinInt}: api.ErrSpan, {From: -1, To: -1}: api.ErrSpan, {From: 6, To: 6}: api.ErrSpan,
	} {
		if got := common.CheckSpan(x, 5); got != want {
			t.Errorf("CheckSpan of %v: got %d, want %d", x, got, want)
		}
		if got := common.CheckPart(x, 5); got != want {
			t.Errorf("CheckPart of %v: got %d, want %d", x, got, want)
		}
	}
}

func TestCheckEmptySpan(t *testing.T) {
	for _, n := range []int{0, 3, 5} {
		x := api.Span{From: n, To: n}
		if got := common.CheckSpan(x, 5); got != api.OK {
			t.Errorf("CheckSpan of %v: got %d", x, got)
		}
		if got := common.CheckPart(x, 5); got != api.ErrSpan {
			t.Errorf("CheckPart of %v: got %d", x, got)
		}
	}
}
