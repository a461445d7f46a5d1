package velocity_test

import (
	"math"
	"testing"

	"moveout/api"
	"moveout/trace"
	"moveout/velocity"
)

// P6.1: Moved.
func TestMoved(t *testing.T) {
	for _, x := range [][4]int{
		{3, 16, 1, 5}, {3, 16, 2, 4}, {0, 7, 2, 1}, {0, 0, 1, 0}, {0, 1, 2, 0}, {0, 3, 1, 1}, {0, 4, 1, 2}, {2, 5, 5, 2}, {2, 25, 5, 3}, {1024, 0, 1, 1024}, {1024, 2048, 1, 1024}, {1024, 2049, 1, 1025}, {1024, 80000000000, 1000000000, 1024}, {1023, 80000000000, 1000000000, 1023}, {0, 80000000000, 1000000000, 8}, {0, 79999999999, 1000000000, 8}, {0, 63999999999, 1000000000, 7}, {0, 80000000000, 1, 282842}, {1024, 80000000000, 1, 282844},
	} {
		got, e := velocity.Moved(x[0], x[1], x[2])
		ok(t, "Moved", e)
		same(t, "Moved", []any{x, got}, []any{x, x[3]})
	}
}

// P6.1: Moved follows its definition, also just below squares.
func TestMovedByDefinition(t *testing.T) {
	r := random(1)
	for range 3000 {
		m, k, v := r.below(1025), r.below(282843), 1+r.below(1000000000)>>r.below(30)
		q := k * k
		for _, q := range []int{q - 1, q, q + 1, q - m*m - 1, q - m*m, r.below(80000000000), v*(k%1000) - 1, v * (k % 1000)} {
			if q < 0 || q > velocity.MaxSquare {
				continue
			}
			for _, by := range []int{1, v} {
				got, e := velocity.Moved(m, q, by)
				ok(t, "Moved", e)
				same(t, "Moved", []any{m, q, by, got}, []any{m, q, by, movedOf(m, q, by)})
			}
		}
	}
}

// P6.1: the errors of Moved.
func TestMovedErrors(t *testing.T) {
	for _, x := range [][3]int{{-1, 0, 1}, {1025, 0, 1}, {math.MinInt, 0, 1}, {math.MaxInt, 0, 1}, {0, -1, 1}, {0, 80000000001, 1}, {0, math.MinInt, 1}, {0, math.MaxInt, 1}, {0, 0, 0}, {0, 0, -1}, {0, 0, 1000000001}, {5, 5, math.MinInt}, {5, 5, math.MaxInt}} {
		got, e := velocity.Moved(x[0], x[1], x[2])
		fails(t, "Moved", e, api.ErrRange, got)
	}
}

// P6.1: CheckSetting.
func TestCheckSetting(t *testing.T) {
	for _, x := range []velocity.Setting{
		settingX(), {Fan: ints(1), Every: 1}, {Fan: ints(1000000000), Window: 16, Stretch: 1024, Every: 1024}, {Fan: fan(16), Every: 1}, {Fan: ints(1, 1000000000), Every: 5},
	} {
		same(t, "CheckSetting", velocity.CheckSetting(x), api.OK)
	}
	for _, x := range badSettings() {
		same(t, "CheckSetting of "+x.what, velocity.CheckSetting(x.x), x.e)
	}
}

// P6.1: Live.
func TestLive(t *testing.T) {
	for _, x := range []struct {
		t, v, stretch int
		want          []int
	}{
		{0, 1, 4, ints(0, 1)}, {0, 1, 2, ints(0, 1)}, {0, 1, 1, ints(0)}, {0, 1, 0, ints(0)}, {0, 4, 1, ints(0, 1)}, {0, 4, 0, ints(0)}, {0, 5, 0, ints(0, 1)}, {1, 1, 0, ints(0)}, {1, 1, 1, ints(0, 1)}, {2, 1, 0, ints(0, 1)}, {3, 1, 0, ints(0, 1)}, {3, 1, 1024, ints(0, 1)},
	} {
		got, e := velocity.Live(gatherG(), x.t, x.v, x.stretch)
		ok(t, "Live", e)
		same(t, "Live", []any{x.t, x.v, x.stretch, plain(got)}, []any{x.t, x.v, x.stretch, x.want})
	}
	// moved by 5 from 0 a trace is beyond the width 4, and none is live
	far := trace.Shot{Name: "far", Traces: []trace.Trace{{Header: at(3, 4), Samples: make([]float32, 4)}}}
	got, e := velocity.Live(far, 0, 1, 1024)
	ok(t, "Live", e)
	same(t, "Live of a far trace", got, ints())
	// moved to 4 it is just beyond, moved to 3 it is not
	far.Traces[0].Header = at(4, 0)
	got, e = velocity.Live(far, 0, 1, 1024)
	ok(t, "Live", e)
	same(t, "Live of a trace moved to the width", got, ints())
	far.Traces[0].Header = at(0, 3)
	got, e = velocity.Live(far, 0, 1, 1024)
	ok(t, "Live", e)
	same(t, "Live of a trace moved to the last sample", got, ints(0))
}

// P6.1: Corrected.
func TestCorrected(t *testing.T) {
	for _, x := range []struct {
		v, stretch int
		want       []float32
	}{
		{1, 4, []float32{8, 8, 8, 0}}, {1, 0, []float32{0, 0, 8, 0}}, {1, 1, []float32{0, 8, 8, 0}}, {4, 4, []float32{0, 0, 8, 0}}, {1000000000, 0, []float32{0, 0, 8, 0}},
	} {
		want := gatherG()
		want.Traces[1].Samples = x.want
		got, e := velocity.Corrected(gatherG(), x.v, x.stretch)
		ok(t, "Corrected", e)
		same(t, "Corrected", got, want)
	}
	for _, s := range []trace.Shot{holes(), wide(0), wide(1024)} {
		got, e := velocity.Corrected(s, 1, 1024)
		ok(t, "Corrected", e)
		same(t, "Corrected without moves", got, s)
	}
	long := trace.Shot{Name: "long", Traces: []trace.Trace{{Header: [8]int{-100000, -100000, 100000, 100000}, Samples: make([]float32, 1024)}}}
	long.Traces[0].Samples[1023] = -1024
	// with the offset 8 squared the root of t squared and 80 is above t by at most 8
	got, e := velocity.Corrected(long, 1000000000, 8)
	ok(t, "Corrected", e)
	for i, x := range got.Traces[0].Samples {
		want := float32(0)
		if i == 1023 {
			want = -1024
		}
		same(t, "Corrected from the greatest offset", []any{i, x}, []any{i, want})
	}
}

// P6.1: Live and Corrected follow their definitions.
func TestGathersByDefinition(t *testing.T) {
	r := random(2)
	for range 400 {
		g := r.gather(r.below(12), 16384)
		v, stretch := 1+r.below(12), r.below(8)
		for i := range widthOf(g) {
			live, e := velocity.Live(g, i, v, stretch)
			ok(t, "Live", e)
			same(t, "Live", live, liveOf(g, i, v, stretch))
		}
		got, e := velocity.Corrected(g, v, stretch)
		ok(t, "Corrected", e)
		same(t, "Corrected", got, correctedOf(g, v, stretch))
	}
}

// P6.1: neighbours with the same header have the same offset, and others their own one, beside holes, too.
func TestOffsetsOfNeighbours(t *testing.T) {
	l := []float32{0, 0, 1, 0, 0, 0}
	g := trace.Shot{Name: "n", Traces: []trace.Trace{
		{Header: at(2, 0), Samples: l}, {Header: at(2, 0), Samples: l}, {Header: at(2, 0), Hole: true}, {Header: at(0, 0), Samples: l}, {Header: at(2, 0), Hole: true}, {Header: at(0, 2), Samples: l}, {Header: [8]int{2, 0, 2, 0, 3, 0, 0, -7}, Samples: l}, {Header: [8]int{-1, -2, 1, -2}, Samples: l},
	}}
	got, e := velocity.Live(g, 0, 1, 1)
	ok(t, "Live", e)
	same(t, "Live of neighbours", got, ints(3, 6))
	got, e = velocity.Live(g, 0, 1, 2)
	ok(t, "Live", e)
	same(t, "Live of neighbours", got, ints(0, 1, 3, 5, 6, 7))
}

// P6.1: the errors of Live and Corrected.
func TestGatherErrors(t *testing.T) {
	for _, x := range badShots() {
		for _, n := range []int{0, -1} {
			l, e := velocity.Live(x.s, n, 1+n, n)
			fails(t, "Live of "+x.what, e, x.e, l)
			s, e := velocity.Corrected(x.s, 1+n, n)
			fails(t, "Corrected of "+x.what, e, x.e, s)
		}
	}
	for _, n := range []int{-1, 4, 5, 1024, math.MinInt, math.MaxInt} {
		l, e := velocity.Live(gatherG(), n, 1, 0)
		fails(t, "Live at a bad time", e, api.ErrRange, l)
	}
	for _, s := range []trace.Shot{holes(), wide(0)} {
		l, e := velocity.Live(s, 0, 1, 0)
		fails(t, "Live without times", e, api.ErrRange, l)
	}
	for _, v := range badVelocities {
		l, e := velocity.Live(gatherG(), 0, v, 0)
		fails(t, "Live by a bad velocity", e, api.ErrRange, l)
		s, e := velocity.Corrected(gatherG(), v, 0)
		fails(t, "Corrected by a bad velocity", e, api.ErrRange, s)
	}
	for _, stretch := range badStretches {
		l, e := velocity.Live(gatherG(), 0, 1, stretch)
		fails(t, "Live by a bad stretch", e, api.ErrRange, l)
		s, e := velocity.Corrected(gatherG(), 1, stretch)
		fails(t, "Corrected by a bad stretch", e, api.ErrRange, s)
	}
}
