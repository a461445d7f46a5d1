package gun_test

import (
	"math"
	"strings"
	"testing"

	"moveout/api"
	"moveout/gun"
)

// P3.1: CheckString.
func TestCheckString(t *testing.T) {
	edge := gun.Gun{Name: "z", Volume: 64, At: at(1000, 1000), Fires: 16, Shift: span(4, 4)}
	other := gun.Gun{Name: "Z", Volume: 1, At: at(-1000, -1000), Fires: 0, Shift: span(0, 4)}
	long := gun.Gun{Name: strings.Repeat("x", 24), Volume: 1}
	for _, s := range []gun.String{pair(), free(), ofVolumes(1), ofVolumes(64, 64, 64, 64, 64, 64, 64, 64), {Guns: []gun.Gun{edge, other, long}}} {
		same(t, "CheckString", []any{s, gun.CheckString(s)}, []any{s, api.OK})
	}
	for _, x := range badStrings() {
		same(t, "CheckString of "+x.what, gun.CheckString(x.s), x.e)
	}
}

// P3.1: Volume and Centre.
func TestVolumeAndCentre(t *testing.T) {
	three := ofVolumes(1, 2, 3)
	three.Guns[0].At, three.Guns[1].At, three.Guns[2].At = at(10, -7), at(-4, 0), at(5, 5)
	far := ofVolumes(64, 64, 64, 64, 64, 64, 64, 64)
	for i := range far.Guns {
		far.Guns[i].At = at(1000, -1000)
	}
	balanced := ofVolumes(10, 5)
	balanced.Guns[0].At, balanced.Guns[1].At = at(-5, 1), at(10, 0)
	for _, x := range []struct {
		s      gun.String
		volume int
		centre [2]api.Ratio
	}{
		{pair(), 24, [2]api.Ratio{{Num: -10, Den: 1}, {Num: 0, Den: 1}}},
		{three, 6, [2]api.Ratio{{Num: 17, Den: 6}, {Num: 4, Den: 3}}},
		{far, 512, [2]api.Ratio{{Num: 1000, Den: 1}, {Num: -1000, Den: 1}}},
		{balanced, 15, [2]api.Ratio{{Num: 0, Den: 1}, {Num: 2, Den: 3}}},
		{ofVolumes(7), 7, [2]api.Ratio{{Num: 0, Den: 1}, {Num: 0, Den: 1}}},
	} {
		v, e := gun.Volume(x.s)
		ok(t, "Volume", e)
		same(t, "Volume", v, x.volume)
		c, e := gun.Centre(x.s)
		ok(t, "Centre", e)
		same(t, "Centre", c, x.centre)
	}
	for _, x := range badStrings() {
		v, e := gun.Volume(x.s)
		fails(t, "Volume of "+x.what, v, e, x.e)
		c, e := gun.Centre(x.s)
		fails(t, "Centre of "+x.what, c, e, x.e)
	}
}

// badBubbles are volumes and shifts of which at least one is out of its range.
var badBubbles = [][2]int{{0, 0}, {-1, 0}, {65, 0}, {math.MinInt, 0}, {math.MaxInt, 0}, {1, -1}, {1, 5}, {64, math.MinInt}, {64, math.MaxInt}, {0, 5}, {65, -1}}

// P3.1: Period.
func TestPeriod(t *testing.T) {
	for x, want := range map[[2]int]int{
		{16, 0}: 6, {16, 1}: 7, {8, 0}: 5, {1, 0}: 4, {7, 0}: 4, {7, 4}: 8, {9, 2}: 7, {15, 0}: 5, {63, 0}: 11, {64, 0}: 12, {64, 4}: 16,
	} {
		n, e := gun.Period(x[0], x[1])
		ok(t, "Period", e)
		same(t, "Period", []any{x, n}, []any{x, want})
	}
	for _, x := range badBubbles {
		n, e := gun.Period(x[0], x[1])
		fails(t, "Period", n, e, api.ErrRange)
	}
}

// P3.1: Bubble.
func TestBubble(t *testing.T) {
	for _, x := range []struct {
		volume, shift, width int
		want                 []float32
	}{
		{16, 0, 13, samples(64, 0, 0, -32, 0, 0, 32, 0, 0, 0, 0, 0, 16)},
		{16, 1, 15, samples(64, 0, 0, -32, 0, 0, 0, 32, 0, 0, 0, 0, 0, 0, 16)},
		{16, 1, 14, samples(64, 0, 0, -32, 0, 0, 0, 32, 0, 0, 0, 0, 0, 0)},
		{8, 0, 11, samples(32, 0, -16, 0, 0, 16, 0, 0, 0, 0, 8)},
		{1, 0, 9, samples(4, 0, -2, 0, 2, 0, 0, 0, 1)},
		{1, 0, 4, samples(4, 0, -2, 0)},
		{1, 0, 3, samples(4, 0, -2)},
		{1, 0, 2, samples(4, 0)},
		{1, 0, 1, samples(4)},
		{64, 4, 1, []float32{16}},
	} {
		l, e := gun.Bubble(x.volume, x.shift, x.width)
		ok(t, "Bubble", e)
		same(t, "Bubble", l, x.want)
	}
	for volume := 1; volume <= 64; volume++ {
		for shift := 0; shift <= 4; shift++ {
			for _, width := range []int{1, 7, 64} {
				l, e := gun.Bubble(volume, shift, width)
				ok(t, "Bubble", e)
				same(t, "the width of a bubble", len(l), width)
				for i, n := range integers(l) {
					same(t, "Bubble", [4]int{volume, shift, i, n}, [4]int{volume, shift, i, bubbleAt(volume, shift, i)})
				}
			}
		}
	}
	for _, x := range badBubbles {
		for _, width := range []int{64, 0} {
			l, e := gun.Bubble(x[0], x[1], width)
			fails(t, "Bubble", l, e, api.ErrRange)
		}
	}
	for _, width := range badWidths {
		l, e := gun.Bubble(1, 0, width)
		fails(t, "Bubble with a bad width", l, e, api.ErrRange)
	}
}

// P3.1: Arrival.
func TestArrival(t *testing.T) {
	spread := ofVolumes(1, 1, 1)
	spread.Guns[0].At, spread.Guns[1].At, spread.Guns[2].At = at(-14, 1000), at(1, -1000), at(0, 15)
	spread.Guns[2].Fires = 16
	for _, x := range []struct {
		s    gun.String
		want map[string][]int
	}{
		{pair(), map[string][]int{"down": {0, 1}, "fore": {0, 3}, "aft": {2, 1}, "port": {0, 1}, "starboard": {0, 1}}},
		// 15 by 15 is 1, 14 by 15 is 0; 2000 by 15 is 133
		{spread, map[string][]int{"down": {0, 0, 16}, "fore": {1, 0, 16}, "aft": {0, 1, 16}, "port": {0, 133, 81}, "starboard": {133, 0, 83}}},
		{ofVolumes(9), map[string][]int{"down": {0}, "fore": {0}, "aft": {0}, "port": {0}, "starboard": {0}}},
	} {
		for _, d := range headings {
			for i, want := range x.want[d] {
				n, e := gun.Arrival(x.s, i, d)
				ok(t, "Arrival", e)
				same(t, "Arrival", []any{d, i, n}, []any{d, i, want})
			}
		}
	}
	r := random(1)
	for range 200 {
		s := r.string(8, 5, 1000)
		for _, d := range headings {
			for i := range s.Guns {
				n, e := gun.Arrival(s, i, d)
				ok(t, "Arrival", e)
				same(t, "Arrival", []any{s, d, i, n}, []any{s, d, i, arrivalOf(s, i, d)})
			}
		}
	}
}

// P3.1: the errors of Arrival, in their order.
func TestArrivalErrors(t *testing.T) {
	for _, x := range badStrings() {
		n, e := gun.Arrival(x.s, -1, "up")
		fails(t, "Arrival of "+x.what, n, e, x.e)
	}
	for _, i := range []int{-1, 2, math.MinInt, math.MaxInt} {
		for _, d := range []string{"down", "up"} {
			n, e := gun.Arrival(pair(), i, d)
			fails(t, "Arrival of no gun", n, e, api.ErrUnknown)
		}
	}
	for _, d := range noHeadings {
		n, e := gun.Arrival(pair(), 1, d)
		fails(t, "Arrival in no direction", n, e, api.ErrKind)
	}
}
