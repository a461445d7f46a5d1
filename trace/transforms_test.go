package trace_test

import (
	"math"
	"testing"

	"moveout/api"
	"moveout/trace"
)

// transform follows the definition with complex numbers.
func transform(l [4]float32) [4]complex64 {
	var p [4]complex64
	for k := range 4 {
		sum := complex128(0)
		for n := range 4 {
			power := complex128(1)
			for range k * n {
				power *= complex(0, -1)
			}
			sum += complex(float64(l[n]), 0) * power
		}
		p[k] = complex64(sum)
	}
	return p
}

// P1.5: Transform.
func TestTransform(t *testing.T) {
	for _, x := range []struct {
		l    [4]float32
		want [4]complex64
	}{
		{[4]float32{1, 2, 3, 4}, [4]complex64{10, complex(-2, 2), -2, complex(-2, -2)}},
		{[4]float32{}, [4]complex64{}},
		{[4]float32{0, 1}, [4]complex64{1, complex(0, -1), -1, complex(0, 1)}},
		{[4]float32{1024, 1024, 1024, 1024}, [4]complex64{4096}},
		{[4]float32{0.0625}, [4]complex64{0.0625, 0.0625, 0.0625, 0.0625}},
		{[4]float32{minus0, minus0, minus0, minus0}, [4]complex64{}},
	} {
		p, e := trace.Transform(x.l)
		ok(t, "Transform", e)
		same(t, "Transform", p, x.want)
	}
	r := random(5)
	for range 100 {
		l := [4]float32(r.samples(4, 16384))
		p, e := trace.Transform(l)
		ok(t, "Transform", e)
		same(t, "Transform", p, transform(l))
	}
	for _, x := range []struct {
		l [4]float32
		e api.Errno
	}{{[4]float32{nan}, api.ErrForm}, {[4]float32{0, 0, 0, endless}, api.ErrForm}, {[4]float32{0, 1025}, api.ErrRange}, {[4]float32{0, 0, 0.03125}, api.ErrRange}, {[4]float32{0, 1025, nan}, api.ErrRange}, {[4]float32{0, nan, 1025}, api.ErrForm}} {
		p, e := trace.Transform(x.l)
		same(t, "Transform of bad samples", e, x.e)
		same(t, "Transform of bad samples", p, [4]complex64{})
	}
}

// P1.5: Back.
func TestBack(t *testing.T) {
	for _, x := range []struct {
		p    [4]complex64
		want [4]float32
	}{
		{[4]complex64{10, complex(-2, 2), -2, complex(-2, -2)}, [4]float32{1, 2, 3, 4}},
		{[4]complex64{1}, [4]float32{0.25, 0.25, 0.25, 0.25}},
		{[4]complex64{0.25, complex(0, -0.25), -0.25, complex(0, 0.25)}, [4]float32{0, 0.25}},
		{[4]complex64{4096}, [4]float32{1024, 1024, 1024, 1024}},
		{[4]complex64{-4096}, [4]float32{-1024, -1024, -1024, -1024}},
		{[4]complex64{0, 0, 4096}, [4]float32{1024, -1024, 1024, -1024}},
		{[4]complex64{0, complex(-0.5, 1), 0, complex(-0.5, -1)}, [4]float32{-0.25, -0.5, 0.25, 0.5}},
	} {
		l, e := trace.Back(x.p)
		ok(t, "Back", e)
		same(t, "Back", l, x.want)
	}
}

// P1.5: the errors of Back.
func TestBackErrors(t *testing.T) {
	for _, x := range []struct {
		what string
		p    [4]complex64
		e    api.Errno
	}{
		{"NaN", [4]complex64{complex(nan, 0)}, api.ErrForm}, {"an infinite part", [4]complex64{0, 0, 0, complex(0, -endless)}, api.ErrForm},
		{"a real part above", [4]complex64{4096.0625}, api.ErrRange}, {"an imaginary part below", [4]complex64{0, complex(0, -4096.0625)}, api.ErrRange}, {"a part between", [4]complex64{0, 0, complex(0, 0.03125)}, api.ErrRange}, {"a part far above", [4]complex64{0, 0, math.MaxFloat32}, api.ErrRange},
		{"both parts of one number", [4]complex64{complex(5000, nan)}, api.ErrForm}, {"a range before a form", [4]complex64{5000, complex(nan, 0)}, api.ErrRange}, {"a form before a range", [4]complex64{complex(0, nan), 5000}, api.ErrForm}, {"no transform before a range", [4]complex64{0, 1, 0, 5000}, api.ErrRange},
		{"imaginary samples", [4]complex64{0, 1}, api.ErrForm}, {"an imaginary sum", [4]complex64{complex(0, 1)}, api.ErrForm}, {"quarters", [4]complex64{0.0625}, api.ErrForm}, {"halves", [4]complex64{0.125}, api.ErrForm}, {"three quarters below", [4]complex64{-0.1875}, api.ErrForm},
		{"a sample above", [4]complex64{4096, 0, 4096}, api.ErrForm}, {"a sample just above", [4]complex64{4096, 0, 0.25}, api.ErrForm}, {"a sample just below", [4]complex64{-4096, 0, -0.25}, api.ErrForm}, {"others beside", [4]complex64{4096, 1, 1, 1}, api.ErrForm},
	} {
		l, e := trace.Back(x.p)
		same(t, "Back of "+x.what, e, x.e)
		same(t, "Back of "+x.what, l, [4]float32{})
	}
}
