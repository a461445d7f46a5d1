package survey_test

import (
	"slices"
	"testing"

	"moveout/api"
	"moveout/survey"
)

// P9.2: CheckFires with shots of the chapter.
func TestCheckFires(t *testing.T) {
	shots := func(l ...int) []survey.Fire {
		var out []survey.Fire
		for f := range slices.Chunk(l, 2) {
			out = append(out, survey.Fire{Tick: f[0], Level: f[1]})
		}
		return out
	}
	for _, x := range []struct {
		what  string
		fires []survey.Fire
		e     api.Errno
	}{
		{"none", nil, api.OK},
		{"in the soft start", shots(9, 2), api.OK},
		{"softer than permitted", shots(9, 1), api.OK},
		{"too loud", shots(9, 3), api.ErrRule},
		{"at the full level", shots(10, 3), api.OK},
		{"above the full level", shots(11, 4), api.ErrRule},
		{"at the greatest level", shots(11, 1001), api.ErrRule},
		{"in the silence behind an animal", shots(7, 1), api.ErrRule},
		{"in the silence at first", shots(0, 1), api.ErrRule},
		{"in the silence before an animal", shots(1, 3), api.ErrRule},
		{"when an animal comes", shots(2, 1), api.ErrInside},
		{"when an animal may be inside", shots(4, 1), api.ErrInside},
		{"above the full level when an animal may be inside", shots(4, 1001), api.ErrInside},
		{"when the sighting does not count any more", shots(5, 1), api.ErrRule},
		{"in whatever order", shots(11, 3, 8, 1, 10, 2, 9, 2), api.OK},
		{"several at one tick", shots(10, 3, 10, 3, 10, 1, 8, 1, 8, 1), api.OK},
		{"the first one that is not permitted is inside", shots(11, 3, 3, 1, 7, 1), api.ErrInside},
		{"the first one that is not permitted is too loud", shots(11, 3, 8, 2, 3, 1), api.ErrRule},
		{"the last one is not permitted", shots(10, 3, 11, 3, 11, 4), api.ErrRule},
		{"256 shots", slices.Repeat(shots(10, 3), 256), api.OK},
		{"256 shots, one inside", append(slices.Repeat(shots(10, 3), 255), shots(3, 3)...), api.ErrInside},
	} {
		same(t, "CheckFires: "+x.what, survey.CheckFires(vessel(), watch(), seen(), x.fires), x.e)
	}
}

// P9.2: CheckFires with the longest watch.
func TestCheckLoudestFires(t *testing.T) {
	v, w := anchored(4096), survey.Watch{Clear: 1000, Soft: 1000}
	for _, x := range []struct {
		tick, level int
		e           api.Errno
	}{{999, 1, api.ErrRule}, {1000, 1, api.OK}, {1000, 2, api.ErrRule}, {1999, 1000, api.OK}, {1999, 1001, api.ErrRule}, {2000, 1001, api.OK}, {4095, 1001, api.OK}, {4095, 1, api.OK}, {4096, 1, api.ErrRange}, {4095, 1002, api.ErrRange}} {
		same(t, "CheckFires", survey.CheckFires(v, w, nil, fire(x.tick, x.level)), x.e)
	}
}

// P9.2: the errors of CheckFires.
func TestCheckFiresErrors(t *testing.T) {
	watchErrors(t, "CheckFires", func(v survey.Vessel, w survey.Watch, l []survey.Sighting) (any, api.Errno) {
		return 0, survey.CheckFires(v, w, l, slices.Repeat(fire(3, 1), 257))
	})
	for _, x := range badFires() {
		same(t, "CheckFires of "+x.what, survey.CheckFires(vessel(), watch(), seen(), x.x), x.e)
	}
}

// P9.2: Window.
func TestWindow(t *testing.T) {
	free := survey.Watch{}
	for _, x := range []struct {
		what   string
		v      survey.Vessel
		w      survey.Watch
		l      []survey.Sighting
		shares []api.Span
		ticks  int
		want   int
		e      api.Errno
	}{
		{"example 3, one tick", vessel(), watch(), seen(), spans(0, 11), 1, 10, api.OK},
		{"example 3, two ticks", vessel(), watch(), seen(), spans(0, 11), 2, 0, api.ErrNone},
		{"example 3, shares that touch", vessel(), watch(), seen(), spans(0, 11, 11, 20), 2, 10, api.OK},
		{"beyond the ticks of the vessel", vessel(), watch(), seen(), spans(0, 100000), 3, 0, api.ErrNone},
		{"all ticks of the vessel", vessel(), free, nil, spans(0, 12), 12, 0, api.OK},
		{"more than all ticks of the vessel", vessel(), free, nil, spans(0, 100), 13, 0, api.ErrNone},
		{"the most ticks", anchored(4096), free, nil, spans(0, 100, 100, 4096), 4096, 0, api.OK},
		{"the most ticks but one", anchored(4096), free, nil, spans(1, 4096), 4096, 0, api.ErrNone},
		{"no shares", vessel(), free, nil, nil, 1, 0, api.ErrNone},
		{"shares beyond the ticks of the vessel", vessel(), free, nil, spans(12, 20, 99999, 100000), 1, 0, api.ErrNone},
		{"shares with a tick between", vessel(), free, nil, spans(0, 4, 5, 10), 5, 5, api.OK},
		{"shares with a tick between, too short", vessel(), free, nil, spans(0, 4, 5, 10), 6, 0, api.ErrNone},
		{"the first one of two", vessel(), free, nil, spans(1, 4, 5, 10), 3, 1, api.OK},
		{"not the full level", anchored(9), survey.Watch{Soft: 3}, nil, spans(0, 9), 1, 3, api.OK},
		{"up to the last tick", anchored(9), survey.Watch{Soft: 3}, nil, spans(0, 9), 6, 3, api.OK},
		{"an animal between", anchored(9), free, []survey.Sighting{sighting(4, 0, 0)}, spans(0, 9), 4, 0, api.OK},
		{"an animal between, too short", anchored(9), free, []survey.Sighting{sighting(3, 0, 0)}, spans(0, 9), 4, 4, api.OK},
		{"an animal at the last tick", anchored(9), free, []survey.Sighting{sighting(8, 0, 0)}, spans(1, 9), 8, 0, api.ErrNone},
		{"256 shares", anchored(600), free, nil, append(steps(255), span(510, 520)), 3, 510, api.OK},
	} {
		got, e := survey.Window(x.v, x.w, x.l, x.shares, x.ticks)
		fails(t, "Window: "+x.what, e, x.e, got)
		same(t, "Window: "+x.what, got, x.want)
	}
}

// P9.2: the errors of Window.
func TestWindowErrors(t *testing.T) {
	watchErrors(t, "Window", func(v survey.Vessel, w survey.Watch, l []survey.Sighting) (any, api.Errno) {
		return survey.Window(v, w, l, spans(3, 3), 0)
	})
	for _, x := range badSpans() {
		got, e := survey.Window(vessel(), watch(), seen(), x.x, 0)
		fails(t, "Window with "+x.what, e, x.e, got)
		got, e = survey.Window(vessel(), watch(), seen(), x.x, 1)
		fails(t, "Window with "+x.what, e, x.e, got)
	}
	for _, n := range outside(1, 4096) {
		got, e := survey.Window(vessel(), watch(), seen(), nil, n)
		fails(t, "Window with ticks", e, api.ErrRange, got)
	}
}

// P9.2: Diary.
func TestDiary(t *testing.T) {
	for _, x := range []struct {
		what            string
		w               survey.Watch
		l               []survey.Sighting
		shares, weather []api.Span
		want            []survey.Entry
	}{
		{"example 4", watch(), seen(), spans(0, 11, 11, 20), spans(9, 10), day()},
		{"no shares", watch(), seen(), nil, nil, entries(entry(0, 12, "share"))},
		{"no shares, but weather", watch(), seen(), nil, spans(0, 1, 2, 30), entries(entry(0, 1, "weather"), entry(1, 2, "share"), entry(2, 12, "weather"))},
		{"weather and no share", watch(), seen(), spans(6, 20), spans(3, 4, 7, 9), entries(entry(0, 3, "share"), entry(3, 4, "weather"), entry(4, 6, "share"), entry(6, 7, "animal"), entry(7, 9, "weather"), entry(9, 12, "shoot"))},
		{"weather that touches", watch(), seen(), spans(0, 12), spans(0, 3, 3, 12), entries(entry(0, 12, "weather"))},
		{"shares alone", survey.Watch{}, nil, spans(0, 12), nil, entries(entry(0, 12, "shoot"))},
		{"what is beyond the ticks", survey.Watch{}, nil, spans(2, 4, 11, 14, 20, 100000), spans(12, 13, 40, 50), entries(entry(0, 2, "share"), entry(2, 4, "shoot"), entry(4, 11, "share"), entry(11, 12, "shoot"))},
		{"the soft start", survey.Watch{Soft: 20}, nil, spans(0, 12), nil, entries(entry(0, 12, "shoot"))},
		{"a clear watch", survey.Watch{Clear: 4}, nil, spans(0, 12), nil, entries(entry(0, 4, "animal"), entry(4, 12, "shoot"))},
		{"animals and weather", survey.Watch{}, []survey.Sighting{sighting(2, 20, 0), sighting(4, 40, 0), sighting(11, 110, 0)}, spans(0, 12), spans(4, 6), entries(entry(0, 2, "shoot"), entry(2, 3, "animal"), entry(3, 4, "shoot"), entry(4, 6, "weather"), entry(6, 11, "shoot"), entry(11, 12, "animal"))},
	} {
		got, e := survey.Diary(vessel(), x.w, x.l, x.shares, x.weather)
		ok(t, "Diary", e)
		same(t, "Diary: "+x.what, got, x.want)
	}
}

// P9.2: the most entries of a diary, and one more.
func TestLongestDiary(t *testing.T) {
	for _, x := range []struct {
		ticks, spans int
		e            api.Errno
	}{{63, 32, api.OK}, {64, 32, api.OK}, {65, 33, api.ErrMany}, {65, 32, api.OK}, {100, 32, api.OK}, {66, 33, api.ErrMany}, {4096, 256, api.ErrMany}, {64, 256, api.OK}, {65, 256, api.ErrMany}} {
		got, e := survey.Diary(anchored(x.ticks), survey.Watch{}, nil, steps(x.spans), nil)
		fails(t, "Diary", e, x.e, got)
		if x.e == api.OK {
			same(t, "the longest diary", got, diaryOf(anchored(x.ticks), survey.Watch{}, nil, steps(x.spans), nil))
		}
		other, e := survey.Diary(anchored(x.ticks), survey.Watch{}, nil, nil, steps(x.spans))
		fails(t, "Diary of weather", e, x.e, other)
	}
}

// P9.2: the errors of Diary.
func TestDiaryErrors(t *testing.T) {
	watchErrors(t, "Diary", func(v survey.Vessel, w survey.Watch, l []survey.Sighting) (any, api.Errno) {
		return survey.Diary(v, w, l, spans(3, 3), steps(257))
	})
	for _, x := range badSpans() {
		got, e := survey.Diary(vessel(), watch(), seen(), x.x, steps(257))
		fails(t, "Diary with the shares of "+x.what, e, x.e, got)
		got, e = survey.Diary(vessel(), watch(), seen(), x.x, spans(4, 4))
		fails(t, "Diary with the shares of "+x.what, e, x.e, got)
		got, e = survey.Diary(vessel(), watch(), seen(), nil, x.x)
		fails(t, "Diary with the weather of "+x.what, e, x.e, got)
		got, e = survey.Diary(anchored(200), watch(), seen(), steps(100), x.x)
		fails(t, "Diary of many entries with the weather of "+x.what, e, x.e, got)
	}
}

// P9.2: CheckFires, Window and Diary are what the definitions say.
func TestRandomShots(t *testing.T) {
	r := random(2)
	errors, windows, causes := map[api.Errno]int{}, map[bool]int{}, map[string]int{}
	for range 1500 {
		v, w := r.vessel(50), r.watch()
		l := r.sightings(v, 5)
		shares, weather := r.spans(5, 20), r.spans(2, 5)
		fires := make([]survey.Fire, r.below(4))
		for i := range fires {
			fires[i] = survey.Fire{Tick: r.below(v.Ticks), Level: 1 + r.below(w.Soft+2)}
		}
		e := survey.CheckFires(v, w, l, fires)
		same(t, "CheckFires", e, firesOf(v, w, l, fires))
		errors[e]++
		ticks := 1 + r.below(8)
		at, is := windowOf(v, w, l, shares, ticks)
		got, e := survey.Window(v, w, l, shares, ticks)
		same(t, "Window", []any{got, e == api.OK}, []any{at, is})
		windows[is]++
		diary, e := survey.Diary(v, w, l, shares, weather)
		ok(t, "Diary", e)
		same(t, "Diary", diary, diaryOf(v, w, l, shares, weather))
		for _, x := range diary {
			causes[x.Cause]++
		}
	}
	if errors[api.OK] < 200 || errors[api.ErrInside] < 100 || errors[api.ErrRule] < 200 || windows[true] < 200 || windows[false] < 200 {
		t.Errorf("the errors of shots are %v, the windows %v", errors, windows)
	}
	for _, word := range []string{"shoot", "weather", "animal", "share"} {
		if causes[word] < 500 {
			t.Errorf("the causes of diaries are %v", causes)
		}
	}
}
