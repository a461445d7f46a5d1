package trace_test

import (
	"slices"
	"testing"

	"moveout/api"
	"moveout/trace"
)

// rounds is how many random shots or lists a consequence is tried with.
const rounds = 200

// P1.7: a shot that is cut in two and joined is the shot again.
func TestCutAndJoined(t *testing.T) {
	r := random(11)
	for range rounds {
		width := r.below(20)
		s := r.shot(width, 16384)
		at := r.below(width + 1)
		a, e := trace.Cut(s, api.Span{From: 0, To: at})
		ok(t, "Cut", e)
		b, e := trace.Cut(s, api.Span{From: at, To: width})
		ok(t, "Cut", e)
		j, e := trace.Join(a, b)
		ok(t, "Join", e)
		same(t, "a shot cut and joined", j, s)
	}
}

// P1.7: a sum does not depend on the order, and holes stay holes.
func TestSumOrder(t *testing.T) {
	r := random(12)
	for range rounds {
		width := r.below(20)
		a := r.shot(width, 8192)
		b := clone(a)
		for i := range b.Traces {
			b.Traces[i].Hole = r.below(3) == 0
			b.Traces[i].Samples = nil
			if !b.Traces[i].Hole {
				b.Traces[i].Samples = r.samples(width, 8192)
			}
		}
		x, e := trace.Sum(a, b)
		ok(t, "Sum", e)
		y, e := trace.Sum(b, a)
		ok(t, "Sum", e)
		same(t, "a sum in the other order", y, x)
		for i := range x.Traces {
			same(t, "a hole of a sum", x.Traces[i].Hole, a.Traces[i].Hole || b.Traces[i].Hole)
		}
	}
}

// P1.7, P2: holes stay holes, with their headers, whatever is done to a shot.
func TestHolesStay(t *testing.T) {
	r := random(13)
	for range rounds {
		s := r.shot(4, 1000)
		scaled, e := trace.Scaled(s, 3, 2)
		ok(t, "Scaled", e)
		delayed, e := trace.Delayed(s, 2)
		ok(t, "Delayed", e)
		cut, e := trace.Cut(s, api.Span{From: 0, To: 2})
		ok(t, "Cut", e)
		for _, x := range []trace.Shot{scaled, delayed, cut} {
			same(t, "the name", x.Name, s.Name)
			for i, u := range s.Traces {
				same(t, "a header", x.Traces[i].Header, u.Header)
				same(t, "a hole", x.Traces[i].Hole, u.Hole)
			}
		}
	}
}

// P1.7: delayed there and back a shot loses its ends alone.
func TestDelayedBack(t *testing.T) {
	r := random(14)
	for range rounds {
		width := r.below(20)
		s := r.shot(width, 16384)
		n := r.integer(22)
		there, e := trace.Delayed(s, n)
		ok(t, "Delayed", e)
		back, e := trace.Delayed(there, -n)
		ok(t, "Delayed", e)
		want := clone(s)
		for _, u := range want.Traces {
			for i := range u.Samples {
				if i+n < 0 || i+n >= width {
					u.Samples[i] = 0
				}
			}
		}
		same(t, "a shot delayed there and back", back, want)
	}
}

// P1.7: convolutions with two lists of taps do not depend on the order.
func TestConvolveOrder(t *testing.T) {
	r := random(15)
	for range rounds {
		l, a, b := r.samples(r.below(20), 30), taps(&r, 4), taps(&r, 4)
		x, e := trace.Convolve(l, a)
		ok(t, "Convolve", e)
		x, e = trace.Convolve(x, b)
		ok(t, "Convolve", e)
		y, e := trace.Convolve(l, b)
		ok(t, "Convolve", e)
		y, e = trace.Convolve(y, a)
		ok(t, "Convolve", e)
		same(t, "convolutions in the other order", y, x)
	}
}

// taps returns 1 to 16 taps from -most to most.
func taps(r *random, most int) []int {
	l := make([]int, 1+r.below(16))
	for i := range l {
		l[i] = r.integer(most)
	}
	return l
}

// P1.7: correlations are convolutions with the other list backwards.
func TestCorrelateBackwards(t *testing.T) {
	r := random(16)
	for range rounds {
		a, b := r.samples(1+r.below(20), 100), taps(&r, 10)
		list := make([]float32, len(b))
		for i, x := range b {
			list[i] = float32(x) / 16
		}
		l, e := trace.Correlate(a, list)
		ok(t, "Correlate", e)
		slices.Reverse(b)
		c, e := trace.Convolve(a, b)
		ok(t, "Convolve", e)
		want := make([]int, len(c))
		for i, x := range c {
			want[i] = int(16 * x)
		}
		same(t, "a correlation", l, want)
	}
}

// P1.7: the correlation of a list with itself has the energy at the lag 0.
func TestCorrelateItself(t *testing.T) {
	r := random(17)
	for range rounds {
		a := r.samples(1+r.below(20), 16384)
		l, e := trace.Correlate(a, a)
		ok(t, "Correlate", e)
		n, e := trace.Energy(a)
		ok(t, "Energy", e)
		same(t, "the lag 0", l[len(a)-1], n)
		at, e := trace.Peak(a)
		ok(t, "Peak", e)
		for i, x := range a {
			if size := max(x, -x); size > max(a[at], -a[at]) || size == max(a[at], -a[at]) && i < at {
				t.Errorf("Peak of %v: got %d, but %d is before it", a, at, i)
			}
		}
	}
}

// P1.7: transforms come back, and their energy is four times that of the samples.
func TestTransformBack(t *testing.T) {
	r := random(18)
	for range rounds {
		l := [4]float32(r.samples(4, 16384))
		p, e := trace.Transform(l)
		ok(t, "Transform", e)
		back, e := trace.Back(p)
		ok(t, "Back", e)
		same(t, "a transform that comes back", back, l)
		n, e := trace.Energy(l[:])
		ok(t, "Energy", e)
		energy := 0
		for _, x := range p {
			re, im := int(16*real(x)), int(16*imag(x))
			energy += re*re + im*im
		}
		same(t, "the energy of a transform", energy, 4*n)
		// another panel is the transform of other samples, or of none
		p[r.below(4)] += complex(float32(1+r.below(8))/16, float32(r.below(2))/16)
		if other, e := trace.Back(p); e == api.OK {
			again, _ := trace.Transform(other)
			same(t, "the transform of what came back", again, p)
		} else {
			same(t, "the error of Back", e == api.ErrForm || e == api.ErrRange, true)
		}
	}
}

// P1.7, P2: shots come back from their texts and streams.
func TestTextsAndStreams(t *testing.T) {
	r := random(19)
	for range rounds {
		s := r.shot(r.below(20), 16384)
		text, e := trace.Print(s)
		ok(t, "Print", e)
		back, at, e := trace.Parse(text)
		ok(t, "Parse", e)
		same(t, "a shot from its text", back, s)
		same(t, "the index", at, 0)
		code, e := trace.Encode(s)
		ok(t, "Encode", e)
		back, e = trace.Decode(code)
		ok(t, "Decode", e)
		same(t, "a shot from its stream", back, s)
		back, lost, e := trace.Salvage(code)
		ok(t, "Salvage", e)
		same(t, "a shot from its stream", back, s)
		same(t, "the lost frames", lost, []int{})
	}
}

// P1.7, P2: a stream of which bytes of some frames are wrong gives all others as they were.
func TestWrongFrames(t *testing.T) {
	r := random(20)
	for range rounds {
		width := r.below(20)
		s := r.shot(width, 16384)
		code, e := trace.Encode(s)
		ok(t, "Encode", e)
		size := 37 + 4*width
		start := len(code) - size*len(s.Traces)
		want := clone(s)
		var wrong []int
		for i := range s.Traces {
			if r.below(2) == 0 {
				continue
			}
			code[start+i*size+r.below(size)] ^= byte(1 + r.below(255))
			want.Traces[i] = trace.Trace{Hole: true}
			wrong = append(wrong, i)
		}
		got, lost, e := trace.Salvage(code)
		ok(t, "Salvage", e)
		same(t, "a shot with lost frames", got, want)
		same(t, "the lost frames", lost, wrong)
		if len(wrong) > 0 {
			_, e = trace.Decode(code)
			same(t, "Decode of lost frames", e, api.ErrCheck)
		}
	}
}

// P2: what a stream cannot give, no shot gives: whatever is decoded has this stream.
func TestDecodedAgain(t *testing.T) {
	r := random(21)
	for range rounds {
		code, e := trace.Encode(r.shot(2, 16384))
		ok(t, "Encode", e)
		code[r.below(len(code))] = byte(r.below(256))
		if s, e := trace.Decode(code); e == api.OK {
			again, _ := trace.Encode(s)
			same(t, "the stream of what was decoded", again, code)
		}
	}
}
