package trace

import (
	"math"

	"moveout/api"
	"moveout/common"
)

// The parts of a stream.
const (
	signature   = "SHOT"
	widthBytes  = 2
	numberBytes = 4
	holeByte    = 1
	minusZero   = 1 << 31 // the bits of the float32 -0
)

// The numbers of the checksum.
const (
	sumFactor  = 257
	sumModulus = 16777213
)

func checksum(l []byte) uint32 {
	return uint32(common.Checksum(l, sumFactor, sumModulus))
}

// frameBytes returns the number of bytes of a frame.
func frameBytes(width int) int {
	return 1 + numberBytes*(Headers+width+1)
}

// Encode returns the stream of a shot.
func Encode(s Shot) ([]byte, api.Errno) {
	if e := CheckShot(s); e != api.OK {
		return nil, e
	}
	w := width(s)
	out := []byte(signature)
	out = append(out, byte(len(s.Name)))
	out = append(out, s.Name...)
	out = append(out, byte(len(s.Traces)), byte(w>>8), byte(w))
	for _, t := range s.Traces {
		out = append(out, frame(t, w)...)
	}
	return out, api.OK
}

// frame returns the frame of a trace in a shot with a width.
func frame(t Trace, width int) []byte {
	out := make([]byte, 1, frameBytes(width))
	if t.Hole {
		out[0] = holeByte
	}
	for _, x := range t.Header {
		out = appendNumber(out, uint32(x))
	}
	samples := make([]float32, width)
	copy(samples, t.Samples)
	for _, x := range samples {
		// By way of the integer -0 becomes 0.
		out = appendNumber(out, math.Float32bits(common.Sample(common.Integer(x))))
	}
	sum := checksum(out)
	return appendNumber(out, sum)
}

func appendNumber(l []byte, x uint32) []byte {
	return append(l, byte(x>>24), byte(x>>16), byte(x>>8), byte(x))
}

// reader takes bytes from the front of a stream; it is torn once there were fewer than were asked for.
type reader struct {
	rest []byte
	torn bool
}

// take returns the next n bytes, or n times 0 if there are fewer.
func (r *reader) take(n int) []byte {
	if n > len(r.rest) {
		r.torn = true
		return make([]byte, n)
	}
	part := r.rest[:n]
	r.rest = r.rest[n:]
	return part
}

// number takes n bytes, the highest one first.
func number(take func(n int) []byte, n int) uint32 {
	x := uint32(0)
	for _, b := range take(n) {
		x = x<<8 | uint32(b)
	}
	return x
}

// content is what a stream has: a name, a width, and frames of which nothing but the length is known.
type content struct {
	name   string
	width  int
	frames [][]byte
}

// unpack returns the content of a stream.
func unpack(s []byte) (content, api.Errno) {
	if len(s) > api.MaxStream {
		return content{}, api.ErrLong
	}
	r := &reader{rest: s}
	take := r.take
	begin := string(take(len(signature)))
	if r.torn {
		return content{}, api.ErrTorn
	}
	if begin != signature {
		return content{}, api.ErrForm
	}
	length := int(number(take, 1))
	name := string(take(length))
	count := int(number(take, 1))
	width := int(number(take, widthBytes))
	need := count * frameBytes(width)
	switch {
	case r.torn || len(r.rest) < need:
		return content{}, api.ErrTorn
	case len(r.rest) > need:
		return content{}, api.ErrShape
	}
	frames := make([][]byte, count)
	for i := range frames {
		frames[i] = take(frameBytes(width))
	}
	return content{name: name, width: width, frames: frames}, api.OK
}

// readFrame returns the trace of a frame in a shot with a width.
func readFrame(frame []byte, width int) (Trace, api.Errno) {
	r := &reader{rest: frame}
	take := r.take
	body := take(len(frame) - numberBytes)
	if number(take, numberBytes) != checksum(body) {
		return Trace{}, api.ErrCheck
	}
	if body[0] > holeByte {
		return Trace{}, api.ErrForm
	}
	t := Trace{Hole: body[0] == holeByte}
	r = &reader{rest: body[1:]}
	take = r.take
	for i := range Headers {
		t.Header[i] = int(int32(number(take, numberBytes)))
	}
	for range width {
		bits := number(take, numberBytes)
		if bits == minusZero || t.Hole && bits != 0 {
			return Trace{}, api.ErrForm
		}
		if !t.Hole {
			t.Samples = append(t.Samples, math.Float32frombits(bits))
		}
	}
	return t, api.OK
}

// Decode returns the shot of a stream.
func Decode(s []byte) (Shot, api.Errno) {
	shot, _, e := read(s, false)
	return shot, e
}

// Salvage returns the shot of a stream in which frames with a wrong checksum are holes, and the indices of these.
func Salvage(s []byte) (Shot, []int, api.Errno) {
	return read(s, true)
}

// read returns the shot of a stream; if it is to salvage, frames with a wrong checksum are holes, and their indices are returned.
func read(s []byte, salvage bool) (Shot, []int, api.Errno) {
	c, e := unpack(s)
	if e != api.OK {
		return Shot{}, nil, e
	}
	shot := Shot{Name: c.name}
	var lost []int
	for i, f := range c.frames {
		t, e := readFrame(f, c.width)
		if salvage && e == api.ErrCheck {
			t, e = Trace{Hole: true}, api.OK
			lost = append(lost, i)
		}
		if e != api.OK {
			return Shot{}, nil, e
		}
		shot.Traces = append(shot.Traces, t)
	}
	if e := CheckShot(shot); e != api.OK {
		return Shot{}, nil, e
	}
	// Only frames that came wrong may have had the samples of the width.
	if len(lost) == 0 && isHollow(shot) && c.width != 0 {
		return Shot{}, nil, api.ErrForm
	}
	return shot, lost, api.OK
}
