package filter_test

import (
	"math/big"
	"slices"
	"testing"

	"moveout/api"
	"moveout/filter"
)

// rounds is how many random lists a consequence is tried with.
const rounds = 300

// apply returns a list to which taps were applied, without an error.
func apply(t *testing.T, taps []int, l []float32) []float32 {
	t.Helper()
	out, e := filter.Apply(taps, l)
	ok(t, "Apply", e)
	return out
}

// P5.6, P6: taps and their adjoint agree on inner products.
func TestInnerProductsAgree(t *testing.T) {
	r := random(21)
	for range rounds {
		length, taps := r.below(30), r.taps(16)
		a, b := samples(r.numbers(length, 120)...), samples(r.numbers(length, 120)...)
		adjoint, e := filter.Adjoint(taps, b)
		ok(t, "Adjoint", e)
		x, e := filter.Inner(apply(t, taps, a), b)
		ok(t, "Inner", e)
		y, e := filter.Inner(a, adjoint)
		ok(t, "Inner", e)
		same(t, "both inner products", x, y)
	}
}

// P5.6: taps are undone, from both sides.
func TestTapsAreUndone(t *testing.T) {
	r := random(22)
	back := 0
	for range rounds {
		l, taps := samples(r.numbers(r.below(30), 120)...), r.unitTaps(16)
		undone, e := filter.Undo(taps, apply(t, taps, l))
		ok(t, "Undo", e)
		same(t, "taps applied and undone", undone, l)
		if undone, e = filter.Undo(taps, l); e == api.OK {
			back++
			same(t, "taps undone and applied", apply(t, taps, undone), l)
		}
	}
	if back < rounds/10 {
		t.Errorf("%d lists were undone alone", back)
	}
}

// P5.6: taps do not depend on the order in which they are applied.
func TestOrderOfTaps(t *testing.T) {
	r := random(23)
	for range rounds {
		l, a, b := samples(r.numbers(r.below(30), 60)...), r.taps(4), r.taps(4)
		same(t, "taps in the other order", apply(t, a, apply(t, b, l)), apply(t, b, apply(t, a, l)))
	}
}

// P5.6, P6: ghosts are undone, from both sides.
func TestGhostsAreUndone(t *testing.T) {
	r := random(24)
	for range rounds {
		l, delay := samples(r.numbers(r.below(90), 180)...), 1+r.below(64)
		ghost, e := filter.Ghost(l, delay)
		ok(t, "Ghost", e)
		back, e := filter.Deghost(ghost, delay)
		ok(t, "Deghost", e)
		same(t, "a ghost that is undone", back, l)
		back, e = filter.Deghost(l, delay)
		ok(t, "Deghost", e)
		ghost, e = filter.Ghost(back, delay)
		ok(t, "Ghost", e)
		same(t, "the ghost of an undone one", ghost, l)
	}
}

// P5.6: the notches of ghosts are where their response is 0, and a ghost is made by its taps.
func TestNotchesOfResponses(t *testing.T) {
	r := random(25)
	for delay := 1; delay < filter.MaxTaps; delay++ {
		taps := make([]int, delay+1)
		taps[0], taps[delay] = 1, -1
		response, e := filter.Response(taps)
		ok(t, "Response", e)
		notches, e := filter.Notches(delay)
		ok(t, "Notches", e)
		for k, x := range response {
			same(t, "a notch", []any{delay, k, slices.Contains(notches, k)}, []any{delay, k, x == 0})
		}
		l := samples(r.numbers(20, 8192)...)
		ghost, e := filter.Ghost(l, delay)
		ok(t, "Ghost", e)
		same(t, "the ghost by its taps", ghost, apply(t, taps, l))
	}
	for delay := filter.MaxTaps; delay <= filter.MaxDelay; delay++ {
		notches, e := filter.Notches(delay)
		ok(t, "Notches", e)
		for k := range 4 {
			same(t, "a notch", []any{delay, k, slices.Contains(notches, k)}, []any{delay, k, power(-1i, k*delay) == 1})
		}
	}
}

// P5.6: no other factor leaves less energy.
func TestFactorLeavesLeast(t *testing.T) {
	r := random(26)
	for range rounds {
		length := 1 + r.below(10)
		l, m := r.numbers(length, 8000), r.numbers(length, 8000)
		m[0] = 7
		_, f, e := filter.Subtract(samples(l...), samples(m...))
		ok(t, "Subtract", e)
		factor := ratio(f.Num, f.Den)
		least := energyOf(less(l, m, factor))
		for _, step := range []*big.Rat{ratio(1, 1), ratio(-1, 1), ratio(1, 1000), ratio(-1, 1000), ratio(1, f.Den), ratio(-1, f.Den), ratio(r.integer(99), 7)} {
			other := energyOf(less(l, m, new(big.Rat).Add(factor, step)))
			if step.Sign() != 0 && other.Cmp(least) <= 0 {
				t.Errorf("Subtract of %v and %v: %v more than the factor %v does not leave more", l, m, step, f)
			}
		}
	}
}

// P5.6, P6: the prediction has the least error of all, and no other one has it.
func TestPredictionHasLeastError(t *testing.T) {
	r := random(27)
	tried := 0
	for range rounds {
		l := r.numbers(3+r.below(12), 1+r.below(127))
		p, e := filter.Predict(samples(l...))
		if e == api.ErrSingular {
			continue
		}
		ok(t, "Predict", e)
		tried++
		y, e := filter.Error(samples(l...))
		ok(t, "Error", e)
		a, b, least := ratio(p.A, p.Den), ratio(p.B, p.Den), ratio(y.Num, y.Den)
		same(t, "the error of the prediction", errorOf(l, a, b).Cmp(least), 0)
		for i := range 8 {
			size := []int{1, 1000, p.Den, 3 * p.Den}[i/2]
			x, z := ratio(r.integer(3), size), ratio(r.integer(3), size)
			other := errorOf(l, new(big.Rat).Add(a, x), new(big.Rat).Add(b, z))
			if (x.Sign() != 0 || z.Sign() != 0) && other.Cmp(least) <= 0 {
				t.Errorf("Predict of %v: %v and %v more than %v have no greater error", l, x, z, p)
			}
		}
		for _, q := range []filter.Prediction{{A: p.A + p.Den, B: p.B, Den: p.Den}, {A: p.A, B: p.B - p.Den, Den: p.Den}, {A: p.A, B: p.B, Den: p.Den + 1}} {
			if q.Den == p.Den || p.A != 0 || p.B != 0 {
				same(t, "CheckPrediction of another one", filter.CheckPrediction(samples(l...), q) == api.OK, false)
			}
		}
	}
	if tried < rounds/2 {
		t.Errorf("%d lists have one prediction alone", tried)
	}
}

// P5.6: a list that despiking changed is between what it was and its medians.
func TestDespikedIsBetween(t *testing.T) {
	r := random(28)
	changed := 0
	for range rounds {
		l, limit := r.numbers(3+r.below(12), 16384), r.below(16385)
		got, e := filter.Despike(samples(l...), limit)
		ok(t, "Despike", e)
		for n, x := range integers(got) {
			if x == l[n] {
				continue
			}
			changed++
			three := slices.Clone(l[n-1 : n+2])
			slices.Sort(three)
			m := three[1]
			same(t, "a changed integer is between", min(l[n], m) <= x && x <= max(l[n], m), true)
			same(t, "a changed integer is at the limit", max(x-m, m-x), limit)
		}
	}
	if changed < rounds {
		t.Errorf("%d integers were changed alone", changed)
	}
}

// P5.6: panels come back, and their energy is sixteen times that of the samples, kept or not.
func TestPanelsComeBack(t *testing.T) {
	r := random(29)
	kept := 0
	for i := range 20 * rounds {
		l := r.square(1 << r.below(11))
		mask := uint16(r.below(1 << 16))
		if i%2 == 0 {
			// With an element the one that is opposite to it, so that the samples stay real.
			for k := range 4 {
				for m := range 4 {
					bit, other := uint16(1)<<(4*k+m), uint16(1)<<(4*((4-k)%4)+(4-m)%4)
					if mask&bit == 0 {
						mask &^= other
					}
				}
			}
			for t := range l {
				for n := range l[t] {
					l[t][n] = float32(int(l[t][n]) % 64 * 16)
				}
			}
		}
		p, e := filter.Panel(l)
		ok(t, "Panel", e)
		back, e := filter.Unpanel(p)
		ok(t, "Unpanel", e)
		same(t, "a panel that comes back", back, l)
		same(t, "the energy of a panel", energyOfPanel(p), 16*energyOfSquare(t, l))
		part, e := filter.Keep(p, mask)
		ok(t, "Keep", e)
		rest, e := filter.Keep(p, ^mask)
		ok(t, "Keep", e)
		same(t, "the energy of both parts", energyOfPanel(part)+energyOfPanel(rest), energyOfPanel(p))
		if some, e := filter.Unpanel(part); e == api.OK {
			kept++
			same(t, "the energy of a part", energyOfPanel(part), 16*energyOfSquare(t, some))
			again, e := filter.Panel(some)
			ok(t, "Panel", e)
			same(t, "a part that comes back", again == part, true)
		}
	}
	if kept < rounds {
		t.Errorf("%d parts came back alone", kept)
	}
}

// energyOfSquare returns the energy of four traces.
func energyOfSquare(t *testing.T, l [4][4]float32) int {
	t.Helper()
	sum := 0
	for _, row := range l {
		n, e := filter.Inner(row[:], row[:])
		ok(t, "Inner", e)
		sum += n
	}
	return sum
}

// P5.6: holes stay holes, and headers and names stay.
func TestHolesStay(t *testing.T) {
	r := random(30)
	for range rounds {
		s := r.shot(r.below(8), 100)
		corrected, e := filter.Corrected(s, r.tides(5, 20))
		ok(t, "Corrected", e)
		each, e := filter.Each(s, r.taps(16))
		ok(t, "Each", e)
		same(t, "the names", []string{corrected.Name, each.Name}, []string{s.Name, s.Name})
		for i, x := range s.Traces {
			for _, y := range []any{corrected.Traces[i].Hole, each.Traces[i].Hole} {
				same(t, "a hole", y, x.Hole)
			}
			for _, y := range []any{corrected.Traces[i].Header, each.Traces[i].Header} {
				same(t, "a header", y, x.Header)
			}
			same(t, "the widths", []int{len(corrected.Traces[i].Samples), len(each.Traces[i].Samples)}, []int{len(x.Samples), len(x.Samples)})
		}
	}
}

// P5.6: taps are parsed as they were printed.
func TestParsePrinted(t *testing.T) {
	r := random(31)
	for range rounds {
		taps := r.taps(16)
		s, e := filter.Print(taps)
		ok(t, "Print", e)
		back, e := filter.Parse(s)
		ok(t, "Parse", e)
		same(t, "Parse of Print", back, taps)
		again, e := filter.Print(back)
		ok(t, "Print", e)
		same(t, "Print of Parse", again, s)
	}
}
