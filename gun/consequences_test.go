package gun_test

import (
	"slices"
	"testing"

	"moveout/api"
	"moveout/gun"
)

// rounds is how many random strings a consequence is tried with.
const rounds = 200

// P3.6, P4: each signature lies in its enclosure, and shifts that give it explain it.
func TestSignaturesEnclosed(t *testing.T) {
	r := random(11)
	for range rounds {
		s, d, width := r.string(8, 5, 200), headings[r.below(5)], 1+r.below(64)
		shifts := r.shifts(s)
		l, e := gun.Signature(s, shifts, d, width)
		ok(t, "Signature", e)
		x, e := gun.Enclose(s, d, width)
		ok(t, "Enclose", e)
		for i, n := range integers(l) {
			if n < x[i].Low || n > x[i].High {
				t.Errorf("the sample %d at %d of %v is not in %v", n, i, s, x[i])
			}
		}
		_, is, e := gun.Outside(s, d, l)
		ok(t, "Outside", e)
		same(t, "a sample outside", is, false)
		k, e := gun.Explain(s, d, l)
		ok(t, "Explain", e)
		if slices.Compare(k, shifts) > 0 {
			t.Errorf("%v explain a signature, but %v were found", shifts, k)
		}
		again, e := gun.Signature(s, k, d, width)
		ok(t, "Signature with what explains it", e)
		same(t, "Signature with what explains it", again, l)
	}
}

// P3.6, P4: each end of the enclosure is reached by some signature.
func TestEnclosureReached(t *testing.T) {
	r := random(12)
	for range rounds {
		s, d, width := r.string(4, 3, 60), headings[r.below(5)], 1+r.below(30)
		x, e := gun.Enclose(s, d, width)
		ok(t, "Enclose", e)
		low, high := make([]bool, width), make([]bool, width)
		for _, shifts := range shiftsOf(s) {
			l, e := gun.Signature(s, shifts, d, width)
			ok(t, "Signature", e)
			for i, n := range integers(l) {
				low[i] = low[i] || n == x[i].Low
				high[i] = high[i] || n == x[i].High
			}
		}
		for i := range width {
			same(t, "ends that are reached", [2]bool{low[i], high[i]}, [2]bool{true, true})
		}
	}
}

// P3.6: the signature of a string is the sum of those of its guns: of the bubbles, each moved to where it begins, and downwards of the strings of one gun each.
func TestSignatureIsSum(t *testing.T) {
	r := random(13)
	for range rounds {
		s, d, width := r.string(8, 5, 300), headings[r.below(5)], 1+r.below(64)
		shifts := r.shifts(s)
		l, e := gun.Signature(s, shifts, d, width)
		ok(t, "Signature", e)
		below, e := gun.Signature(s, shifts, "down", width)
		ok(t, "Signature", e)
		sum, alone := make([]float32, width), make([]float32, width)
		for i, g := range s.Guns {
			begins, e := gun.Arrival(s, i, d)
			ok(t, "Arrival", e)
			bubble, e := gun.Bubble(g.Volume, shifts[i], width)
			ok(t, "Bubble", e)
			for at := begins; at < width; at++ {
				sum[at] += bubble[at-begins]
			}
			one, e := gun.Signature(gun.String{Guns: []gun.Gun{g}}, shifts[i:i+1], "down", width)
			ok(t, "Signature of one gun", e)
			for at, x := range one {
				alone[at] += x
			}
		}
		same(t, "Signature as a sum of bubbles", l, sum)
		same(t, "Signature as a sum of signatures", below, alone)
	}
}

// P3.6: a string that is moved as a whole has the same signatures.
func TestMovedString(t *testing.T) {
	r := random(14)
	for range rounds {
		s := r.string(8, 5, 400)
		moved := clone(s)
		x, y := r.integer(600), r.integer(600)
		for i := range moved.Guns {
			moved.Guns[i].At.X += x
			moved.Guns[i].At.Y += y
		}
		shifts := r.shifts(s)
		for _, d := range headings {
			l, e := gun.Signature(s, shifts, d, 64)
			ok(t, "Signature", e)
			m, e := gun.Signature(moved, shifts, d, 64)
			ok(t, "Signature of a moved string", e)
			same(t, "Signature of a moved string", m, l)
		}
	}
}

// P3.6: the largest drop-outs are accepted, and no drop-outs are always; no more are accepted.
func TestLargestIsAccepted(t *testing.T) {
	r := random(15)
	fewer := 0
	for range rounds {
		s, rules, width := r.string(6, 5, 100), r.rules(4), 1+r.below(64)
		for i := range rules {
			rules[i].Least /= 1 + r.below(8)
		}
		largest, e := gun.Largest(s, rules, width)
		ok(t, "Largest", e)
		for _, dropped := range [][]string{largest, nil} {
			l, e := gun.Refused(s, rules, dropped, width)
			ok(t, "Refused", e)
			same(t, "the rules that refuse them", l, []int(nil))
		}
		for size := range len(s.Guns) + 1 {
			for _, set := range setsOf(len(s.Guns), size) {
				var dropped []string
				for _, i := range set {
					dropped = append(dropped, s.Guns[i].Name)
				}
				l, e := gun.Refused(s, rules, dropped, width)
				ok(t, "Refused", e)
				if size > len(largest) {
					same(t, "more drop-outs than the largest ones are accepted", len(l) == 0, false)
				}
				if size < len(largest) && len(l) > 0 {
					fewer++
				}
			}
		}
	}
	if fewer == 0 {
		t.Error("fewer drop-outs were always accepted")
	}
}

// P3.6: the vessel has reached a point at its tick, and not before.
func TestPointIsReached(t *testing.T) {
	r := random(16)
	reached := 0
	for range rounds {
		x := along(r.below(1000), r.below(1000), 200+r.below(1000), 1+r.below(20), 1+r.below(30), 1+r.below(10))
		l, e := gun.Ticks(x)
		if e != api.OK {
			continue
		}
		for i, tick := range l {
			ahead := x.First + i*x.Spacing
			moved := func(tick int) int { return x.Num * (tick - x.Start) }
			same(t, "the point is reached", moved(tick) >= ahead*x.Den, true)
			same(t, "the point is reached before", tick > x.Start && moved(tick-1) >= ahead*x.Den, false)
			reached++
		}
	}
	if reached < rounds {
		t.Errorf("%d points were reached alone", reached)
	}
}

// P3.6, P4: the soft start of a string is permitted.
func TestSoftStartIsPermitted(t *testing.T) {
	r := random(17)
	for range 5 * rounds {
		s := r.string(8, 1, 0)
		l, e := gun.SoftStart(s)
		ok(t, "SoftStart", e)
		same(t, "CheckStart of a soft start", []any{s, l, gun.CheckStart(s, l)}, []any{s, l, api.OK})
		same(t, "whether it is permitted", permitted(s, l), true)
	}
}

// P3.6: strings are parsed as they were printed.
func TestParsePrinted(t *testing.T) {
	r := random(18)
	for range rounds {
		s := r.string(8, 5, 1000)
		text, e := gun.Print(s)
		ok(t, "Print", e)
		back, at, e := gun.Parse(text)
		ok(t, "Parse", e)
		same(t, "Parse of Print", back, s)
		same(t, "the index", at, 0)
	}
}

// P3.4: a string misfires by no limit once it is retimed.
func TestRetimedFires(t *testing.T) {
	r := random(19)
	for range rounds {
		s := r.string(8, 1, 10)
		var l []gun.Timing
		for _, g := range s.Guns {
			l = slices.Insert(l, r.below(len(l)+1), timing(g.Name, r.below(17)))
		}
		again, e := gun.Retimed(s, l)
		ok(t, "Retimed", e)
		m, e := gun.Misfires(again, l, 0)
		ok(t, "Misfires", e)
		same(t, "Misfires of a retimed string", m, []string(nil))
		for i := range again.Guns {
			again.Guns[i].Fires = s.Guns[i].Fires
		}
		same(t, "all but the ticks", again, s)
	}
}
