package velocity_test

import (
	"slices"
	"testing"

	"moveout/api"
	"moveout/trace"
	"moveout/velocity"
)

// rounds is how many random arguments a consequence is tried with.
const rounds = 300

// moved returns a moved time, without an error.
func moved(t *testing.T, time, q, v int) int {
	t.Helper()
	m, e := velocity.Moved(time, q, v)
	ok(t, "Moved", e)
	return m
}

// P6.6: moved times never become less with the time, the offset or the slowness, and are never before the time.
func TestMovedTimesGrow(t *testing.T) {
	r := random(11)
	for range 20 * rounds {
		time, q, v := r.below(1025), r.below(80000000001)>>r.below(36), 1+r.below(1000000000)>>r.below(30)
		m := moved(t, time, q, v)
		same(t, "a moved time is not before the time", m >= time, true)
		same(t, "a later time", m <= moved(t, time+r.below(1025-time), q, v), true)
		same(t, "a greater offset", m <= moved(t, time, q+r.below(80000000001-q), v), true)
		same(t, "a greater slowness", m <= moved(t, time, q, v-r.below(v)), true)
		same(t, "at the offset 0", moved(t, time, 0, v), time)
	}
}

// P6.6: a trace at the offset 0 is not moved.
func TestOffset0IsNotMoved(t *testing.T) {
	r := random(12)
	for range rounds {
		g := r.gather(r.below(12), 16384)
		for i := range g.Traces {
			h := &g.Traces[i].Header
			h[2], h[3] = h[0], h[1]
		}
		got, e := velocity.Corrected(g, 1+r.below(1000000000), r.below(1025))
		ok(t, "Corrected", e)
		same(t, "Corrected at the offset 0", got, g)
	}
}

// P6.6: the semblance is from 0 to 1, and 1 if all live traces are the same, and something is in them.
func TestSemblanceIsFrom0To1(t *testing.T) {
	r := random(13)
	ones := 0
	for range rounds {
		g, x := r.gather(1+r.below(9), 16384), r.setting(3)
		width := widthOf(g)
		if width == 0 {
			continue
		}
		time := r.below(width)
		s, e := velocity.Semblance(g, time, x.Fan[0], x.Window, x.Stretch)
		ok(t, "Semblance", e)
		same(t, "the semblance is from 0 to 1", 0 <= s.Num && s.Num <= s.Den, true)
		alike := trace.Shot{Name: "alike"}
		l := samples(make([]int, width)...)
		l[time] = 1 - float32(r.below(9))/16
		for range 1 + r.below(9) {
			alike.Traces = append(alike.Traces, trace.Trace{Samples: l})
		}
		// at another offset, and moved by more than the stretch, a trace is not live
		if r.below(2) == 0 {
			alike.Traces = append(alike.Traces, trace.Trace{Header: at(30, 40), Samples: make([]float32, width)})
		}
		s, e = velocity.Semblance(alike, time, 1, x.Window, x.Stretch)
		ok(t, "Semblance", e)
		same(t, "the semblance of the same traces", s, api.Ratio{Num: 1, Den: 1})
		ones++
	}
	if ones < rounds/2 {
		t.Errorf("%d gathers had times", ones)
	}
}

// P6.6, P7: no path has a greater score than the best one, nor than potentials prove, and the least potentials prove just its score.
func TestNoPathIsBetter(t *testing.T) {
	r := random(14)
	for range rounds {
		times, rows := 1+r.below(64), 1+r.below(16)
		p, x := r.panel(times, rows, 1024), r.limits(6)
		best, score, e := velocity.Best(p, x)
		ok(t, "Best", e)
		n, e := velocity.CheckPath(p, x, best)
		ok(t, "CheckPath", e)
		same(t, "the score of the best path", n, score)
		least, e := velocity.Potentials(p, x)
		ok(t, "Potentials", e)
		bound, e := velocity.CheckPotentials(p, x, least)
		ok(t, "CheckPotentials", e)
		same(t, "the least potentials", bound, score)
		l, e := velocity.Rivals(p, x, 8)
		ok(t, "Rivals", e)
		same(t, "the first rival", l[0], best)
		last := score
		for i, path := range l {
			n, e := velocity.CheckPath(p, x, path)
			ok(t, "CheckPath", e)
			same(t, "rivals are in their order", n < last || n == last && (i == 0 || slices.Compare(l[i-1], path) < 0), true)
			last = n
		}
		for range 20 {
			path := r.path(1, rows)
			for i := 1; i < times; i++ {
				path = append(path, max(0, path[i-1]-x.Down, min(rows-1, path[i-1]+r.below(x.Up+x.Down+1)-x.Down)))
			}
			n, e := velocity.CheckPath(p, x, path)
			ok(t, "CheckPath", e)
			same(t, "no path is better than the best one", n <= score, true)
			beyond := n < last || n == last && slices.Compare(path, l[len(l)-1]) > 0
			same(t, "a path is a rival, or behind them", beyond || slices.ContainsFunc(l, func(q []int) bool { return slices.Equal(q, path) }), true)
		}
	}
}

// P6.6: with wider limits the best score is not less.
func TestWiderLimits(t *testing.T) {
	r := random(15)
	for range rounds {
		p, x := r.panel(1+r.below(20), 1+r.below(16), 1024), r.limits(8)
		_, score, e := velocity.Best(p, x)
		ok(t, "Best", e)
		for _, y := range []velocity.Limits{limits(x.Up+1, x.Down), limits(x.Up, x.Down+1), limits(16, 16)} {
			_, n, e := velocity.Best(p, y)
			ok(t, "Best", e)
			same(t, "with wider limits", n >= score, true)
		}
	}
}

// P6.6, P7: picks are refused exactly if no moments explain them, and the least moments are below all others that do.
func TestRefusedExactly(t *testing.T) {
	r := random(16)
	explained := 0
	for range 20 * rounds {
		var l []velocity.Pick
		time := 0
		for range r.below(20) {
			time += 1 + r.below(50)
			l = append(l, pick(time, 500000+r.below(1000000), r.below(1000000)))
		}
		low := 1 + r.below(600000)
		b := span(low, low+r.below(3000000))
		_, refused, e := velocity.Refused(l, b)
		ok(t, "Refused", e)
		m, e := velocity.Moments(l, b)
		if refused {
			fails(t, "Moments", e, api.ErrInfeasible, m)
			continue
		}
		explained++
		ok(t, "Moments", e)
		same(t, "CheckMoments", velocity.CheckMoments(l, b, m), api.OK)
		for i := range m {
			m[i]--
			same(t, "no moment is less alone", velocity.CheckMoments(l, b, m) == api.OK, false)
			m[i]++
		}
	}
	if explained < rounds || explained > 19*rounds {
		t.Errorf("%d picks of %d were explained", explained, 20*rounds)
	}
}

// P6.6: the picks of layers are explained by these.
func TestLayersExplainTheirPicks(t *testing.T) {
	r := random(17)
	for range rounds {
		var l []velocity.Pick
		var moments []int
		var layers []api.Ratio
		low := 1 + r.below(1000)
		b := span(low, low+r.below(1000000))
		time, moment := 0, 0
		for range r.below(20) {
			by, v := 1+r.below(50), low+r.below(b.High-low+1)
			time, moment = time+by, moment+by*v
			// rounded to a squared velocity, the quotient of the moment and the time has an error up to 1
			l = append(l, pick(time, moment/time, 1+r.below(5)))
			moments, layers = append(moments, moment), append(layers, api.Ratio{Num: v, Den: 1})
		}
		same(t, "the picks of layers", velocity.CheckMoments(l, b, moments), api.OK)
		got, e := velocity.Layers(l, moments)
		ok(t, "Layers", e)
		same(t, "Layers", got, layers)
		_, refused, e := velocity.Refused(l, b)
		ok(t, "Refused", e)
		same(t, "the picks of layers are refused", refused, false)
		least, e := velocity.Moments(l, b)
		ok(t, "Moments", e)
		for i, m := range least {
			same(t, "the least moments are not above others", m <= moments[i], true)
		}
		got, e = velocity.Layers(l, least)
		ok(t, "Layers", e)
		for _, x := range got {
			same(t, "a layer of the least moments is within the bounds", b.Low*x.Den <= x.Num && x.Num <= b.High*x.Den, true)
		}
	}
}

// P6.6: picks are parsed as they were printed.
func TestParsePrinted(t *testing.T) {
	r := random(18)
	for range rounds {
		var l []velocity.Pick
		time := 0
		for range r.below(65) {
			time += 1 + r.below(16)
			l = append(l, pick(time, 1+r.below(1000000000)>>r.below(30), r.below(1000000001)>>r.below(31)))
		}
		s, e := velocity.Print(l)
		ok(t, "Print", e)
		back, line, e := velocity.Parse(s)
		ok(t, "Parse", e)
		same(t, "Parse of Print", []any{back, line}, []any{l, 0})
		again, e := velocity.Print(back)
		ok(t, "Print", e)
		same(t, "Print of Parse", again, s)
	}
}

// P6.6: the picks of the best path of a panel, and the stack by it, follow from the gather.
func TestGatherToStack(t *testing.T) {
	r := random(19)
	tried := 0
	for range rounds {
		g, x := r.gather(1+r.below(9), 16384), r.setting(4)
		if widthOf(g) == 0 {
			continue
		}
		tried++
		p, e := velocity.Panel(g, x)
		ok(t, "Panel", e)
		same(t, "CheckPanel of Panel", velocity.CheckPanel(p), api.OK)
		path, _, e := velocity.Best(p, r.limits(3))
		ok(t, "Best", e)
		picks, e := velocity.Picks(x, path, 1)
		ok(t, "Picks", e)
		same(t, "CheckPicks of Picks", []any{velocity.CheckPicks(picks), len(picks)}, []any{api.OK, len(p) - 1})
		stack, e := velocity.Stacked(g, x, path)
		ok(t, "Stacked", e)
		same(t, "Stacked", stack, stackOf(g, x, path))
	}
	if tried < rounds/2 {
		t.Errorf("%d gathers had times", tried)
	}
}
