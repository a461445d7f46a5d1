package survey_test

import (
	"slices"
	"testing"

	"moveout/api"
	"moveout/survey"
)

// P9.1: CheckVessel.
func TestCheckVessel(t *testing.T) {
	for _, v := range []survey.Vessel{
		vessel(), anchored(1), anchored(4096),
		{Start: point(100000, -100000), Step: point(1000, -1000), Ticks: 4096},
		{Start: point(-100000, 100000), Step: point(-1000, 1000), Ticks: 1},
	} {
		same(t, "CheckVessel", survey.CheckVessel(v), api.OK)
	}
	for _, x := range badVessels() {
		same(t, "CheckVessel of "+x.what, survey.CheckVessel(x.x), x.e)
	}
}

// P9.1: CheckWatch.
func TestCheckWatch(t *testing.T) {
	for _, w := range []survey.Watch{{}, watch(), {Ring: 10000, Speed: 1000, Loss: 1000, Clear: 1000, Soft: 1000}} {
		same(t, "CheckWatch", survey.CheckWatch(w), api.OK)
	}
	for _, x := range badWatches() {
		same(t, "CheckWatch of "+x.what, survey.CheckWatch(x.x), x.e)
	}
}

// P9.1: CheckSightings.
func TestCheckSightings(t *testing.T) {
	for _, l := range [][]survey.Sighting{
		nil, {}, seen(), make([]survey.Sighting, 64),
		{sighting(0, 100000, -100000), sighting(100000, -100000, 100000)},
		{sighting(3, 1, 1), sighting(3, 1, 1), sighting(3, 0, 0), sighting(4, 0, 0), sighting(4, 9, 9)},
	} {
		same(t, "CheckSightings", survey.CheckSightings(l), api.OK)
	}
	for _, x := range badSightings() {
		same(t, "CheckSightings of "+x.what, survey.CheckSightings(x.x), x.e)
	}
}

// watchErrors checks that a function returns the errors of its first three arguments, in their order.
func watchErrors(t *testing.T, what string, f func(v survey.Vessel, w survey.Watch, l []survey.Sighting) (any, api.Errno)) {
	t.Helper()
	for _, x := range badVessels() {
		got, e := f(x.x, watch(), slices.Repeat(seen(), 65))
		fails(t, what+" with "+x.what, e, x.e, got)
		got, e = f(x.x, watch(), seen())
		fails(t, what+" with "+x.what, e, x.e, got)
	}
	for _, x := range badWatches() {
		got, e := f(vessel(), x.x, slices.Repeat(seen(), 65))
		fails(t, what+" with "+x.what, e, x.e, got)
		got, e = f(vessel(), x.x, seen())
		fails(t, what+" with "+x.what, e, x.e, got)
	}
	for _, x := range badSightings() {
		got, e := f(vessel(), watch(), x.x)
		fails(t, what+" with "+x.what, e, x.e, got)
	}
}

// P9.1: the errors of Inside, Levels and Silent.
func TestWatchErrors(t *testing.T) {
	watchErrors(t, "Inside", func(v survey.Vessel, w survey.Watch, l []survey.Sighting) (any, api.Errno) {
		return survey.Inside(v, w, l)
	})
	watchErrors(t, "Levels", func(v survey.Vessel, w survey.Watch, l []survey.Sighting) (any, api.Errno) {
		return survey.Levels(v, w, l)
	})
	watchErrors(t, "Silent", func(v survey.Vessel, w survey.Watch, l []survey.Sighting) (any, api.Errno) {
		return survey.Silent(v, w, l)
	})
}

// insideTicks returns the ticks at which an animal may be inside.
func insideTicks(t *testing.T, v survey.Vessel, w survey.Watch, l ...survey.Sighting) []int {
	t.Helper()
	is, e := survey.Inside(v, w, l)
	ok(t, "Inside", e)
	same(t, "the ticks of Inside", len(is), v.Ticks)
	var out []int
	for tick, inside := range is {
		if inside {
			out = append(out, tick)
		}
	}
	return out
}

// P9.1: Inside.
func TestInside(t *testing.T) {
	pool, still := anchored(9), survey.Vessel{Start: point(7, 8), Ticks: 9}
	ring := func(ring, speed, loss int) survey.Watch {
		return survey.Watch{Ring: ring, Speed: speed, Loss: loss, Clear: 4, Soft: 4}
	}
	for _, x := range []struct {
		what string
		v    survey.Vessel
		w    survey.Watch
		l    []survey.Sighting
		want []int
	}{
		{"example 1", vessel(), watch(), seen(), ints(2, 3, 4)},
		{"no sightings", vessel(), watch(), nil, nil},
		{"a loss of nothing", vessel(), ring(30, 5, 0), seen(), ints(2)},
		{"a loss of one tick", vessel(), ring(30, 5, 1), seen(), ints(2, 3)},
		{"the longest loss", vessel(), ring(30, 5, 1000), seen(), ints(2, 3, 4, 5, 6, 7, 8, 9, 10, 11)},
		{"the longest loss of animals that stay", vessel(), ring(30, 0, 1000), seen(), ints(2, 3, 4, 5, 6, 7)},
		{"just inside", vessel(), ring(20, 0, 0), seen(), ints(2)},
		{"just outside", vessel(), ring(19, 0, 0), seen(), nil},
		{"just outside at its tick alone", vessel(), ring(19, 0, 3), seen(), ints(3, 4, 5)},
		{"no ring, at the place", still, ring(0, 0, 2), []survey.Sighting{sighting(3, 7, 8)}, ints(3, 4, 5)},
		{"no ring, beside the place", still, ring(0, 0, 2), []survey.Sighting{sighting(3, 7, 9)}, nil},
		{"no ring, as far as an animal comes", still, ring(0, 1, 3), []survey.Sighting{sighting(3, 7, 10)}, ints(5, 6)},
		{"a corner just inside", pool, ring(50, 0, 0), []survey.Sighting{sighting(0, 30, -40)}, ints(0)},
		{"a corner just outside", pool, ring(50, 0, 0), []survey.Sighting{sighting(0, 31, -40)}, nil},
		{"a corner that is as near as both sides", pool, ring(49, 0, 9), []survey.Sighting{sighting(0, -30, 40)}, nil},
		{"a corner that an animal comes in from", pool, ring(40, 5, 2), []survey.Sighting{sighting(1, -30, -40)}, ints(3)},
		{"two sightings at a tick, the first one inside", pool, ring(5, 0, 1), []survey.Sighting{sighting(2, 5, 0), sighting(2, 6, 0)}, ints(2, 3)},
		{"two sightings at a tick, the second one inside", pool, ring(5, 0, 1), []survey.Sighting{sighting(2, 6, 0), sighting(2, 0, 5)}, ints(2, 3)},
		{"an old sighting reaches, a new one does not", pool, ring(5, 10, 5), []survey.Sighting{sighting(0, 45, 0), sighting(3, 45, 0)}, ints(4, 5, 7, 8)},
		{"a sighting at the first tick", pool, ring(5, 0, 1), []survey.Sighting{sighting(0, 0, 0)}, ints(0, 1)},
		{"a sighting at the last tick", pool, ring(5, 0, 1), []survey.Sighting{sighting(8, 0, 0)}, ints(8)},
		{"a sighting behind the last tick", pool, ring(5, 0, 1000), []survey.Sighting{sighting(9, 0, 0), sighting(100000, 0, 0)}, nil},
	} {
		same(t, "Inside: "+x.what, insideTicks(t, x.v, x.w, x.l...), x.want)
	}
}

// P9.1: Inside at places beyond all limits of coordinates, and with the largest numbers.
func TestInsideFarAway(t *testing.T) {
	away := survey.Vessel{Start: point(100000, -100000), Step: point(1000, -1000), Ticks: 4096}
	widest := survey.Watch{Ring: 10000, Speed: 1000, Loss: 1000, Clear: 1000, Soft: 1000}
	corner := sighting(0, 100000, -100000)
	// The distance at the tick t is t times the root of 2000000, the reach 10000 + 1000 t.
	var want []int
	for tick := range 25 {
		want = append(want, tick)
	}
	same(t, "Inside at a corner", insideTicks(t, away, widest, corner), want)
	same(t, "Inside at the other corner", insideTicks(t, away, widest, sighting(0, -100000, 100000)), ints())
	same(t, "Inside beyond", insideTicks(t, survey.Vessel{Start: point(100000, 0), Step: point(1000, 0), Ticks: 30}, survey.Watch{Ring: 10000, Loss: 1000}, sighting(9, 100000, 0)), ints(9, 10))
	// An animal follows at the speed of the vessel as long as the sighting counts.
	is := insideTicks(t, survey.Vessel{Step: point(-1000, 0), Ticks: 4096}, widest, sighting(5, 0, 0))
	same(t, "Inside of one that follows", []int{is[0], is[len(is)-1], len(is)}, ints(5, 1005, 1001))
}

// P9.1: Levels.
func TestLevels(t *testing.T) {
	pool := anchored(8)
	at := func(ticks ...int) []survey.Sighting {
		var l []survey.Sighting
		for _, tick := range ticks {
			l = append(l, sighting(tick, 0, 0))
		}
		return l
	}
	wait := func(clear, soft int) survey.Watch { return survey.Watch{Clear: clear, Soft: soft} }
	for _, x := range []struct {
		what string
		v    survey.Vessel
		w    survey.Watch
		l    []survey.Sighting
		want []int
	}{
		{"example 1", vessel(), watch(), seen(), ints(0, 0, 0, 0, 0, 0, 0, 0, 1, 2, 3, 3)},
		{"example 2", vessel(), watch(), nil, ints(0, 0, 0, 1, 2, 3, 3, 3, 3, 3, 3, 3)},
		{"without waiting", pool, wait(0, 0), nil, ints(1, 1, 1, 1, 1, 1, 1, 1)},
		{"without waiting, and animals", pool, wait(0, 0), at(0, 3, 7), ints(0, 1, 1, 0, 1, 1, 1, 0)},
		{"a soft start of one step", pool, wait(0, 1), at(2), ints(1, 2, 0, 1, 2, 2, 2, 2)},
		{"a clear watch of one tick", pool, wait(1, 0), at(3), ints(0, 1, 1, 0, 0, 1, 1, 1)},
		{"both, and two animals", pool, wait(1, 2), at(0, 1), ints(0, 0, 0, 1, 2, 3, 3, 3)},
		{"an animal in the soft start", pool, wait(1, 3), at(3), ints(0, 1, 2, 0, 0, 1, 2, 3)},
		{"a clear watch of all ticks", pool, wait(8, 0), nil, ints(0, 0, 0, 0, 0, 0, 0, 0)},
		{"a clear watch up to the last tick", pool, wait(7, 5), nil, ints(0, 0, 0, 0, 0, 0, 0, 1)},
		{"a soft start behind the last tick", pool, wait(0, 8), nil, ints(1, 2, 3, 4, 5, 6, 7, 8)},
		{"a soft start up to the last tick", pool, wait(0, 6), nil, ints(1, 2, 3, 4, 5, 6, 7, 7)},
		{"always an animal", anchored(3), survey.Watch{Loss: 9, Soft: 5}, at(0), ints(0, 0, 0)},
		{"one tick", anchored(1), wait(0, 3), nil, ints(1)},
	} {
		got, e := survey.Levels(x.v, x.w, x.l)
		ok(t, "Levels", e)
		same(t, "Levels: "+x.what, got, x.want)
	}
	got, e := survey.Levels(anchored(4096), wait(1000, 1000), nil)
	ok(t, "Levels", e)
	same(t, "the longest levels", []int{len(got), got[999], got[1000], got[1999], got[2000], got[2001], got[4095]}, ints(4096, 0, 1, 1000, 1001, 1001, 1001))
}

// P9.1: Silent.
func TestSilent(t *testing.T) {
	for _, x := range []struct {
		what string
		v    survey.Vessel
		w    survey.Watch
		l    []survey.Sighting
		want []api.Span
	}{
		{"example 2", vessel(), watch(), seen(), spans(0, 8)},
		{"no sightings", vessel(), watch(), nil, spans(0, 3)},
		{"never", vessel(), survey.Watch{}, nil, nil},
		{"always", vessel(), survey.Watch{Clear: 12}, nil, spans(0, 12)},
		{"one tick", vessel(), survey.Watch{Ring: 20}, seen(), spans(2, 3)},
		{"up to the last tick", vessel(), survey.Watch{Clear: 1}, []survey.Sighting{sighting(5, 50, 0), sighting(11, 110, 0)}, spans(0, 1, 5, 7, 11, 12)},
		{"from the first tick", vessel(), survey.Watch{Clear: 2}, []survey.Sighting{sighting(0, 0, 0), sighting(2, 20, 0)}, spans(0, 5)},
		{"with one tick between", vessel(), survey.Watch{}, []survey.Sighting{sighting(4, 40, 0), sighting(6, 60, 0)}, spans(4, 5, 6, 7)},
	} {
		got, e := survey.Silent(x.v, x.w, x.l)
		ok(t, "Silent", e)
		same(t, "Silent: "+x.what, got, x.want)
	}
}

// P9.1: Inside, Levels and Silent are what the definitions say.
func TestRandomWatches(t *testing.T) {
	r := random(1)
	inside, silent, full := 0, 0, 0
	for range 1500 {
		v, w := r.vessel(40), r.watch()
		l := r.sightings(v, 5)
		is, e := survey.Inside(v, w, l)
		ok(t, "Inside", e)
		same(t, "Inside", is, insidesOf(v, w, l))
		levels, e := survey.Levels(v, w, l)
		ok(t, "Levels", e)
		same(t, "Levels", levels, levelsOf(v, w, l))
		parts, e := survey.Silent(v, w, l)
		ok(t, "Silent", e)
		same(t, "Silent", parts, silentOf(v, w, l))
		if slices.Contains(is, true) {
			inside++
		}
		if len(parts) > 1 {
			silent++
		}
		if slices.Contains(levels, w.Soft+1) {
			full++
		}
	}
	if inside < 300 || silent < 300 || full < 300 {
		t.Errorf("%d with animals inside, %d with several silent spans, %d with the full level", inside, silent, full)
	}
}
