package common_test

import (
	"math"
	"testing"

	"moveout/api"
	"moveout/common"
)

func TestTurned(t *testing.T) {
	l := [4]api.Gauss{{Re: 1}, {Re: 2}, {Re: 3}, {Re: 4}}
	turned := [4]api.Gauss{{Re: 10}, {Re: -2, Im: 2}, {Re: -2}, {Re: -2, Im: -2}}
	if got := common.Turned(l, common.MinusI); got != turned {
		t.Errorf("Turned: got %v", got)
	}
	fourfold := [4]api.Gauss{{Re: 4}, {Re: 8}, {Re: 12}, {Re: 16}}
	if got := common.Turned(turned, common.PlusI); got != fourfold {
		t.Errorf("Turned back: got %v", got)
	}
	// at k = 1 the number i at n = 1 is turned by -i to 1, or by i to -1
	upright := [4]api.Gauss{1: {Im: 1}}
	if got, want := common.Turned(upright, common.MinusI), [4]api.Gauss{{Im: 1}, {Re: 1}, {Im: -1}, {Re: -1}}; got != want {
		t.Errorf("Turned of i: got %v", got)
	}
	if got, want := common.Turned(upright, common.PlusI), [4]api.Gauss{{Im: 1}, {Re: -1}, {Im: -1}, {Re: 1}}; got != want {
		t.Errorf("Turned back of i: got %v", got)
	}
}

func TestRotated(t *testing.T) {
	x := api.Gauss{Re: 3, Im: -2}
	for exponent, want := range map[int]api.Gauss{0: x, 1: {Re: 2, Im: 3}, 2: {Re: -3, Im: 2}, 3: {Re: -2, Im: -3}, 4: x, 4801: {Re: 2, Im: 3}, -1: {Re: -2, Im: -3}, -2: {Re: -3, Im: 2}, -3: {Re: 2, Im: 3}, -4: x, -4801: {Re: -2, Im: -3}} {
		if got := common.Rotated(x, exponent); got != want {
			t.Errorf("Rotated by %d: got %v, want %v", exponent, got, want)
		}
	}
}

func TestCheckElement(t *testing.T) {
	for _, x := range []struct {
		p complex64
		e api.Errno
	}{
		{0, api.OK}, {complex(1.25, -1.25), api.OK}, {complex(1.3125, 0), api.ErrRange}, {complex(0, -1.3125), api.ErrRange}, {complex(0.03125, 0), api.ErrRange}, {complex(0, 0.03125), api.ErrRange}, {complex(nan, 0), api.ErrForm}, {complex(0, nan), api.ErrForm}, {complex(endless, 0), api.ErrForm}, {complex(0, -endless), api.ErrForm}, {complex(9, nan), api.ErrForm}, {complex(nan, 9), api.ErrForm},
	} {
		if e := common.CheckElement(x.p, 20); e != x.e {
			t.Errorf("CheckElement of %v: got %d, want %d", x.p, e, x.e)
		}
	}
}

func TestElement(t *testing.T) {
	for n, x := range map[api.Gauss]complex64{{}: 0, {Re: 1, Im: -24}: complex(0.0625, -1.5), {Re: -262144, Im: 262144}: complex(-16384, 16384)} {
		if got := common.Element(n); got != x {
			t.Errorf("Element of %v: got %v", n, got)
		}
		if got := common.Gauss(x); got != n {
			t.Errorf("Gauss of %v: got %v", x, got)
		}
	}
	x := common.Element(common.Gauss(complex(minus0, minus0)))
	if math.Signbit(float64(real(x))) || math.Signbit(float64(imag(x))) {
		t.Error("Element returns -0")
	}
}
