package image_test

import (
	"math"
	"testing"

	"moveout/api"
	"moveout/image"
)

// P7.2: CheckSurvey.
func TestCheckSurvey(t *testing.T) {
	for _, s := range []image.Survey{
		surveyS(0), surveyS(256), surveyT(), {Unit: 1, Length: 1}, {Unit: 1000, Length: 256, Most: 256, Pairs: make([]image.Pair, 16)}, {Unit: 1, Length: 1, Pairs: []image.Pair{hole(3, 3), pair(3, 3)}},
	} {
		same(t, "CheckSurvey", image.CheckSurvey(groundG(), s), api.OK)
	}
	for _, x := range badSurveys() {
		same(t, "CheckSurvey of "+x.what, image.CheckSurvey(groundG(), x.s), x.e)
	}
	for _, x := range badGrounds() {
		same(t, "CheckSurvey in "+x.what, image.CheckSurvey(x.g, image.Survey{Pairs: make([]image.Pair, 17)}), x.e)
	}
	// the first pair with an error decides
	both := surveyT()
	both.Pairs[1].Receiver, both.Pairs[0].Source = 4, -1
	same(t, "CheckSurvey of two bad pairs", image.CheckSurvey(groundG(), both), api.ErrUnknown)
}

// P7.2: Delays.
func TestDelays(t *testing.T) {
	long := surveyS(4)
	long.Length = 5
	fine := image.Survey{Unit: 1, Length: 28, Most: 256, Pairs: []image.Pair{pair(0, 1), pair(1, 0), pair(3, 3)}}
	coarse := image.Survey{Unit: 1000, Length: 1, Pairs: []image.Pair{pair(0, 3)}}
	for _, x := range []struct {
		s    image.Survey
		pair int
		want []int
	}{
		{surveyS(3), 0, ints(1, -1, 4, -1)}, {surveyS(4), 0, ints(1, 1, 4, 5)}, {surveyS(2), 0, ints(-1, -1, -1, -1)}, {surveyS(256), 0, ints(1, 1, 4, 5)}, {surveyS(0), 0, ints(-1, -1, -1, -1)},
		// a number that is not less than the length is none, but its cell may be what another one is aliased by
		{long, 0, ints(1, 1, 4, -1)}, {fine, 0, ints(6, 6, 22, 27)}, {fine, 1, ints(6, 6, 22, 27)}, {fine, 2, ints(-1, 24, -1, 0)}, {coarse, 0, ints(0, 0, 0, 0)},
		{surveyT(), 0, ints(1, 1, 4, 5)}, {surveyT(), 1, ints(-1, -1, -1, -1)}, {surveyT(), 2, ints(3, 3, 4, 3)},
	} {
		l, e := image.Delays(groundG(), x.s, x.pair)
		ok(t, "Delays", e)
		same(t, "Delays", l, x.want)
	}
	// diagonal neighbours do not alias a cell: 0 and 3 differ by 30, straight neighbours by 12 to 18
	slanted := image.Survey{Unit: 1, Length: 256, Pairs: []image.Pair{pair(0, 0)}}
	for most, want := range map[int][]int{18: ints(0, 12, 16, 30), 17: ints(0, -1, 16, -1), 16: ints(0, -1, 16, -1), 15: ints(-1, -1, -1, -1)} {
		slanted.Most = most
		l, e := image.Delays(groundG(), slanted, 0)
		ok(t, "Delays", e)
		same(t, "Delays with a diagonal", []any{most, l}, []any{most, want})
	}
}

// P7.2: Delays follows its definition.
func TestDelaysByDefinition(t *testing.T) {
	r := random(5)
	with, without := 0, 0
	for range 150 {
		g := r.ground(4, 1+r.below(30))
		s := r.survey(g, 4)
		for i, p := range s.Pairs {
			want := delaysOf(g, s, p)
			l, e := image.Delays(g, s, i)
			ok(t, "Delays", e)
			same(t, "Delays", l, want)
			for _, at := range l {
				if at < 0 {
					without++
				} else {
					with++
				}
			}
		}
	}
	if with < 200 || without < 200 {
		t.Errorf("%d cells had samples, %d had none", with, without)
	}
}

// P7.2: the errors of Delays.
func TestDelaysErrors(t *testing.T) {
	for _, x := range badGrounds() {
		l, e := image.Delays(x.g, image.Survey{}, -1)
		fails(t, "Delays in "+x.what, e, x.e, l)
	}
	for _, x := range badSurveys() {
		l, e := image.Delays(groundG(), x.s, -1)
		fails(t, "Delays of "+x.what, e, x.e, l)
	}
	for _, i := range []int{-1, 3, math.MinInt, math.MaxInt} {
		l, e := image.Delays(groundG(), surveyT(), i)
		fails(t, "Delays of a bad pair", e, api.ErrUnknown, l)
	}
	l, e := image.Delays(groundG(), image.Survey{Unit: 1, Length: 1}, 0)
	fails(t, "Delays without pairs", e, api.ErrUnknown, l)
}
