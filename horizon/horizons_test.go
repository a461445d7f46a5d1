package horizon_test

import (
	"math"
	"testing"

	"moveout/api"
	"moveout/horizon"
)

// P8.1: horizons without an error.
func TestGoodHorizons(t *testing.T) {
	for _, h := range []horizon.Horizon{
		top(), base(), named("a", 0, 0, 0), named("a", 1000, 255, 100000), named("a", 0, 0, 100000, 255, 0), named("a", 0, 0, 5, 1, 5), named("Abcdefghijklmnopqrstu_09", 0, 1, 1), full("a", 1000, 100000),
	} {
		same(t, "CheckHorizon", horizon.CheckHorizon(h), api.OK)
	}
	for _, l := range [][]horizon.Horizon{nil, {}, list(top()), list(top(), base()), two(), many(8), list(named("a", 0, 1, 1), named("A", 0, 1, 1), named("aa", 0, 1, 1))} {
		same(t, "CheckHorizons", horizon.CheckHorizons(l), api.OK)
	}
}

// P8.1: the errors of CheckHorizon and CheckHorizons.
func TestBadHorizons(t *testing.T) {
	for _, x := range badHorizons() {
		fails(t, "CheckHorizon of "+x.what, horizon.CheckHorizon(x.h), x.e)
	}
	for _, x := range badLists() {
		fails(t, "CheckHorizons of "+x.what, horizon.CheckHorizons(x.l), x.e)
	}
}

// P8.1: At and Band, at picks and between them.
func TestTimesAndBands(t *testing.T) {
	for _, x := range []struct {
		h     horizon.Horizon
		place int
		time  api.Ratio
		band  api.Interval
	}{
		{top(), 0, ratio(100, 1), span(98, 102)}, {top(), 1, ratio(310, 3), span(101, 106)}, {top(), 2, ratio(320, 3), span(104, 109)}, {top(), 3, ratio(110, 1), span(108, 112)}, {top(), 4, ratio(310, 3), span(101, 106)}, {top(), 5, ratio(290, 3), span(94, 99)}, {top(), 6, ratio(90, 1), span(88, 92)},
		{base(), 1, ratio(104, 1), span(104, 104)}, {base(), 4, ratio(104, 1), span(104, 104)}, {base(), 6, ratio(104, 1), span(104, 104)},
		// one place alone
		{named("a", 5, 0, 2), 0, ratio(2, 1), span(-3, 7)}, {named("a", 1000, 255, 0), 255, ratio(0, 1), span(-1000, 1000)}, {named("a", 1000, 255, 100000), 255, ratio(100000, 1), span(99000, 101000)},
		// lowest terms, 0 and integers between picks
		{named("a", 0, 2, 0, 8, 4), 5, ratio(2, 1), span(2, 2)}, {named("a", 0, 2, 0, 8, 4), 4, ratio(4, 3), span(1, 2)}, {named("a", 0, 2, 0, 8, 0), 3, ratio(0, 1), span(0, 0)}, {named("a", 1, 0, 1, 2, 0), 1, ratio(1, 2), span(-1, 2)}, {named("a", 1, 0, 0, 2, 1), 1, ratio(1, 2), span(-1, 2)},
		// over all places
		{named("a", 3, 0, 0, 255, 100000), 254, ratio(5080000, 51), span(99604, 99611)}, {named("a", 3, 0, 100000, 255, 0), 254, ratio(20000, 51), span(389, 396)}, {named("a", 0, 0, 100000, 255, 99999), 1, ratio(25499999, 255), span(99999, 100000)},
		{full("a", 1, 7), 100, ratio(7, 1), span(6, 8)}, {full("a", 1, 7), 255, ratio(7, 1), span(6, 8)},
	} {
		time, e := horizon.At(x.h, x.place)
		ok(t, "At", e)
		same(t, "At", time, x.time)
		band, e := horizon.Band(x.h, x.place)
		ok(t, "Band", e)
		same(t, "Band", band, x.band)
	}
}

// P8.1: times and bands are those of the definitions.
func TestTimesByDefinition(t *testing.T) {
	r := random(1)
	for range 500 {
		most := 1 + r.below(100000)
		h := r.horizon("a", 6, 0, most)
		for _, place := range placesOf(h) {
			time, e := horizon.At(h, place)
			ok(t, "At", e)
			same(t, "At", time, ratioOf(timeOf(h, place)))
			band, e := horizon.Band(h, place)
			ok(t, "Band", e)
			same(t, "Band", band, bandOf(h, place))
		}
	}
}

// P8.1: the errors of At and Band.
func TestTimesErrors(t *testing.T) {
	for _, x := range badHorizons() {
		for _, place := range ints(1, -1) {
			time, e := horizon.At(x.h, place)
			fails(t, "At of "+x.what, e, x.e, time)
			band, e := horizon.Band(x.h, place)
			fails(t, "Band of "+x.what, e, x.e, band)
		}
	}
	for _, x := range []struct {
		h      horizon.Horizon
		places []int
	}{
		{top(), ints(-1, 7, 255, 256, math.MinInt, math.MaxInt)}, {base(), ints(-1, 0, 7)}, {named("a", 1000, 3, 1), ints(2, 4)}, {full("a", 0, 0), ints(-1, 256)},
	} {
		for _, place := range x.places {
			time, e := horizon.At(x.h, place)
			fails(t, "At beside a horizon", e, api.ErrSpan, time)
			band, e := horizon.Band(x.h, place)
			fails(t, "Band beside a horizon", e, api.ErrSpan, band)
		}
	}
}
