package trace_test

import (
	"encoding/binary"
	"encoding/hex"
	"math"
	"slices"
	"strings"
	"testing"

	"moveout/api"
	"moveout/trace"
)

// s1Stream is the stream of the shot of the chapter.
const s1Stream = "53484f54" + "02" + "7331" + "03" + "0003" +
	"00" + "00000000" + "00000000" + "0000001e" + "00000028" + "00000005" + "00000000" + "00000000" + "00000000" + "3f800000" + "40000000" + "40400000" + "00aabaa9" +
	"01" + "00000000" + "00000000" + "0000003c" + "00000050" + "00000005" + "00000001" + "00000000" + "00000000" + "00000000" + "00000000" + "00000000" + "00bdb0a6" +
	"00" + "00000000" + "00000000" + "00000000" + "00000000" + "00000005" + "00000002" + "00000000" + "fffffff9" + "3f800000" + "c0000000" + "3d800000" + "00e28f07"

func s1Bytes(t *testing.T) []byte {
	t.Helper()
	l, err := hex.DecodeString(s1Stream)
	if err != nil {
		t.Fatal(err)
	}
	return l
}

// frame returns a frame with a right checksum.
func frame(first byte, header [8]int32, samples ...uint32) []byte {
	l := []byte{first}
	for _, x := range header {
		l = binary.BigEndian.AppendUint32(l, uint32(x))
	}
	for _, x := range samples {
		l = binary.BigEndian.AppendUint32(l, x)
	}
	x := 1
	for _, b := range l {
		x = (257*x + int(b)) % 16777213
	}
	return binary.BigEndian.AppendUint32(l, uint32(x))
}

// broken returns a frame with a wrong checksum.
func broken(frame []byte) []byte {
	l := slices.Clone(frame)
	l[len(l)-1] ^= 1
	return l
}

// stream returns a stream with some frames.
func stream(name string, width int, frames ...[]byte) []byte {
	l := append([]byte("SHOT"), byte(len(name)))
	l = append(l, name...)
	l = append(l, byte(len(frames)), byte(width>>8), byte(width))
	return append(l, slices.Concat(frames...)...)
}

// P1.6: Encode.
func TestEncode(t *testing.T) {
	l, e := trace.Encode(s1())
	ok(t, "Encode", e)
	same(t, "Encode", hex.EncodeToString(l), s1Stream)
	l, e = trace.Encode(hollow(2))
	ok(t, "Encode holes", e)
	same(t, "Encode holes", l, stream("hollow", 0, frame(1, [8]int32{}), frame(1, [8]int32{})))
	l, e = trace.Encode(one(minus0, 1024, -0.0625))
	ok(t, "Encode -0", e)
	same(t, "Encode -0", l, stream("one", 3, frame(0, [8]int32{}, 0, 0x44800000, 0xbd800000)))
	wide := trace.Shot{Name: strings.Repeat("w", 24), Traces: make([]trace.Trace, 64)}
	for i := range wide.Traces {
		wide.Traces[i] = trace.Trace{Header: [8]int{-100000, 100000, 0, 0, 100000, -999999999, 999999999, -1}, Samples: make([]float32, 1024)}
	}
	l, e = trace.Encode(wide)
	ok(t, "Encode the largest shot", e)
	same(t, "the number of Encode", len(l), 32+64*(37+4096))
	same(t, "the width of Encode", l[29:32], []byte{64, 4, 0})
	same(t, "a frame of Encode", l[32:32+4133], frame(0, [8]int32{-100000, 100000, 0, 0, 100000, -999999999, 999999999, -1}, make([]uint32, 1024)...))
	for _, x := range badShots() {
		l, e := trace.Encode(x.s)
		same(t, "Encode "+x.what, e, x.e)
		same(t, "Encode "+x.what, l, []byte{})
	}
}

// P1.6: Decode and Salvage of streams without an error.
func TestDecode(t *testing.T) {
	for _, x := range []struct {
		what string
		l    []byte
		want trace.Shot
	}{
		{"s1", s1Bytes(t), s1()},
		{"holes", stream("hollow", 0, frame(1, [8]int32{}), frame(1, [8]int32{})), hollow(2)},
		{"no samples", stream("one", 0, frame(0, [8]int32{})), one()},
		{"samples", stream("one", 2, frame(0, [8]int32{}, 0, 0xc4800000)), one(0, -1024)},
		{"a hole first", stream("s", 1, frame(1, [8]int32{-1, -100000}, 0), frame(0, [8]int32{}, 0x3f800000)), trace.Shot{Name: "s", Traces: []trace.Trace{{Header: [8]int{-1, -100000}, Hole: true}, {Samples: []float32{1}}}}},
	} {
		s, e := trace.Decode(x.l)
		ok(t, "Decode of "+x.what, e)
		same(t, "Decode of "+x.what, s, x.want)
		s, l, e := trace.Salvage(x.l)
		ok(t, "Salvage of "+x.what, e)
		same(t, "Salvage of "+x.what, s, x.want)
		same(t, "Salvage of "+x.what, l, []int{})
	}
}

// bothRefuse checks that Decode and Salvage refuse a stream with an error.
func bothRefuse(t *testing.T, what string, s []byte, e api.Errno) {
	t.Helper()
	got, gotE := trace.Decode(s)
	same(t, "Decode of "+what, gotE, e)
	same(t, "Decode of "+what, got, trace.Shot{})
	salvageRefuses(t, what, s, e)
}

func salvageRefuses(t *testing.T, what string, s []byte, e api.Errno) {
	t.Helper()
	got, l, gotE := trace.Salvage(s)
	same(t, "Salvage of "+what, gotE, e)
	same(t, "Salvage of "+what, got, trace.Shot{})
	same(t, "Salvage of "+what, l, []int{})
}

// P1.6: streams that are too short, too long, or do not begin as streams do.
func TestDecodeEnds(t *testing.T) {
	whole := s1Bytes(t)
	for n := range len(whole) {
		bothRefuse(t, "a stream that is cut off", whole[:n:n], api.ErrTorn)
	}
	bothRefuse(t, "nothing", nil, api.ErrTorn)
	bothRefuse(t, "another beginning that is cut off", []byte("SHX"), api.ErrTorn)
	for i := range 4 {
		other := slices.Clone(whole)
		other[i] ^= 32
		bothRefuse(t, "another beginning", other, api.ErrForm)
		bothRefuse(t, "another beginning alone", other[:4], api.ErrForm)
	}
	bothRefuse(t, "a byte more", append(slices.Clone(whole), 0), api.ErrShape)
	bothRefuse(t, "a byte more without frames", append(stream("1", 0), 0), api.ErrShape)
	long := make([]byte, 400001)
	bothRefuse(t, "a long stream", long, api.ErrLong)
	bothRefuse(t, "a long stream without the beginning", long[:400000], api.ErrForm)
	copy(long, whole)
	bothRefuse(t, "a long stream with the beginning", long, api.ErrLong)
	bothRefuse(t, "a stream with many bytes more", long[:400000], api.ErrShape)
	bothRefuse(t, "a name that is cut off", []byte("SHOT\xffabc"), api.ErrTorn)
	bothRefuse(t, "the most frames", []byte("SHOT\x01a\xff\xff\xff"), api.ErrTorn)
	// the number of bytes is asked before the frames
	bothRefuse(t, "a wrong checksum in a stream with a byte more", append(stream("s", 0, broken(frame(0, [8]int32{}))), 0), api.ErrShape)
	bothRefuse(t, "a wrong checksum in a stream with a byte less", stream("s", 0, broken(frame(0, [8]int32{})), frame(0, [8]int32{})[:36]), api.ErrTorn)
}

// P1.6: the errors of frames in their order.
func TestDecodeFrames(t *testing.T) {
	good := frame(0, [8]int32{}, 0x3f800000)
	hole := frame(1, [8]int32{}, 0)
	for _, x := range []struct {
		what string
		l    []byte
		e    api.Errno
	}{
		{"a kind that is none", stream("s", 1, good, frame(2, [8]int32{}, 0)), api.ErrForm},
		{"the kind 255", stream("s", 1, frame(255, [8]int32{}, 0)), api.ErrForm},
		{"a sample -0", stream("s", 1, frame(0, [8]int32{}, 1<<31)), api.ErrForm},
		{"a hole with -0", stream("s", 1, good, frame(1, [8]int32{}, 1<<31)), api.ErrForm},
		{"a hole with a sample", stream("s", 2, frame(1, [8]int32{}, 0, 0x3f800000)), api.ErrForm},
		{"a hole with NaN", stream("s", 1, frame(1, [8]int32{}, 0x7fc00000)), api.ErrForm},
		{"a form before a name", stream("1", 1, good, frame(2, [8]int32{}, 0)), api.ErrForm},
		{"a form before a header", stream("s", 1, frame(0, [8]int32{100001}, 0), frame(1, [8]int32{}, 1)), api.ErrForm},
		{"a form before a form behind", stream("s", 1, frame(2, [8]int32{}, 0), good), api.ErrForm},
		{"a name", stream("1", 1, good), api.ErrName},
		{"an empty name", stream("", 1, good), api.ErrName},
		{"a long name", stream(strings.Repeat("x", 255), 1, good), api.ErrName},
		{"a name before a number", stream("s 1", 1), api.ErrName},
		{"no frames", stream("s", 0), api.ErrEmpty},
		{"no frames with a width", stream("s", 5), api.ErrEmpty},
		{"65 frames", stream("s", 1, slices.Repeat([][]byte{hole}, 65)...), api.ErrMany},
		{"255 frames", stream("s", 0, slices.Repeat([][]byte{frame(0, [8]int32{})}, 255)...), api.ErrMany},
		{"a header", stream("s", 1, frame(0, [8]int32{0, 0, 0, 0, -1}, 0)), api.ErrRange},
		{"a header of a hole", stream("s", 1, good, frame(1, [8]int32{0, 0, 0, 0, 0, math.MinInt32}, 0)), api.ErrRange},
		{"too many samples", stream("s", 1025, frame(0, [8]int32{}, make([]uint32, 1025)...)), api.ErrMany},
		{"NaN", stream("s", 2, frame(0, [8]int32{}, 0, 0x7fc00000)), api.ErrForm},
		{"a signalling NaN", stream("s", 1, frame(0, [8]int32{}, 0xff800001)), api.ErrForm},
		{"a sample above", stream("s", 1, good, frame(0, [8]int32{}, 0x44800200)), api.ErrRange},
		{"a sample between", stream("s", 1, frame(0, [8]int32{}, 1)), api.ErrRange},
		{"holes alone with a width", stream("s", 1, hole, hole), api.ErrForm},
		{"holes alone with a large width", stream("s", 1025, frame(1, [8]int32{}, make([]uint32, 1025)...)), api.ErrForm},
		{"a header before holes alone", stream("s", 1, frame(1, [8]int32{100001}, 0)), api.ErrRange},
	} {
		bothRefuse(t, x.what, x.l, x.e)
	}
}

// P1.6: the error of a checksum, which Salvage does not have.
func TestDecodeChecks(t *testing.T) {
	good := frame(0, [8]int32{}, 0x3f800000)
	hole := frame(1, [8]int32{}, 0)
	for _, x := range []struct {
		what string
		l    []byte
		e    api.Errno
	}{
		{"a wrong checksum", stream("s", 1, good, broken(good)), api.ErrCheck},
		{"a wrong checksum before a name", stream("1", 1, broken(good)), api.ErrCheck},
		{"a wrong checksum before the form of its frame", stream("s", 1, broken(frame(2, [8]int32{}, 1<<31))), api.ErrCheck},
		{"a wrong checksum before a form behind", stream("s", 1, broken(good), frame(2, [8]int32{}, 0)), api.ErrCheck},
		{"a form before a wrong checksum behind", stream("s", 1, frame(2, [8]int32{}, 0), broken(good)), api.ErrForm},
		{"a header before a wrong checksum behind", stream("s", 1, frame(0, [8]int32{100001}, 0), broken(good)), api.ErrCheck},
		{"a wrong checksum of a hole", stream("s", 1, broken(hole)), api.ErrCheck},
	} {
		s, e := trace.Decode(x.l)
		same(t, "Decode of "+x.what, e, x.e)
		same(t, "Decode of "+x.what, s, trace.Shot{})
	}
	// each bit of a frame is checked
	whole := s1Bytes(t)
	for at := 10; at < len(whole); at++ {
		for bit := range 8 {
			l := slices.Clone(whole)
			l[at] ^= 1 << bit
			_, e := trace.Decode(l)
			same(t, "Decode with another bit", e, api.ErrCheck)
		}
	}
}

// P1.6: Salvage of wrong frames.
func TestSalvage(t *testing.T) {
	good := frame(0, [8]int32{}, 0x3f800000)
	hole := frame(1, [8]int32{7}, 0)
	full := trace.Trace{Samples: []float32{1}}
	lost := trace.Trace{Hole: true}
	for _, x := range []struct {
		what   string
		l      []byte
		traces []trace.Trace
		lost   []int
	}{
		{"a wrong frame", stream("s", 1, good, broken(hole), hole), []trace.Trace{full, lost, {Header: [8]int{7}, Hole: true}}, []int{1}},
		{"wrong frames alone", stream("s", 1, broken(good), broken(good)), []trace.Trace{lost, lost}, []int{0, 1}},
		{"a wrong frame and a hole", stream("s", 1, hole, broken(good)), []trace.Trace{{Header: [8]int{7}, Hole: true}, lost}, []int{1}},
		{"wrong frames around", stream("s", 1, broken(good), good, broken(good)), []trace.Trace{lost, full, lost}, []int{0, 2}},
		{"a wrong frame of another kind", stream("s", 1, good, broken(frame(9, [8]int32{}, 1<<31))), []trace.Trace{full, lost}, []int{1}},
		{"a wrong frame with a bad header", stream("s", 1, good, broken(frame(0, [8]int32{100001}, 0x7fc00000))), []trace.Trace{full, lost}, []int{1}},
		{"a wrong frame with too many samples", stream("s", 1025, broken(frame(0, [8]int32{}, make([]uint32, 1025)...))), []trace.Trace{lost}, []int{0}},
	} {
		s, l, e := trace.Salvage(x.l)
		ok(t, "Salvage of "+x.what, e)
		same(t, "Salvage of "+x.what, s, trace.Shot{Name: "s", Traces: x.traces})
		same(t, "Salvage of "+x.what, l, x.lost)
	}
	for _, x := range []struct {
		what string
		l    []byte
		e    api.Errno
	}{
		{"a wrong frame and a form", stream("s", 1, broken(good), frame(2, [8]int32{}, 0)), api.ErrForm},
		{"a form and a wrong frame", stream("s", 1, frame(0, [8]int32{}, 1<<31), broken(good)), api.ErrForm},
		{"a wrong frame and a name", stream("1", 1, broken(good)), api.ErrName},
		{"a wrong frame and a header", stream("s", 1, broken(good), frame(0, [8]int32{100001}, 0)), api.ErrRange},
		{"65 wrong frames", stream("s", 1, slices.Repeat([][]byte{broken(good)}, 65)...), api.ErrMany},
		{"a wrong frame and too many samples", stream("s", 1025, broken(frame(0, [8]int32{}, make([]uint32, 1025)...)), frame(0, [8]int32{}, make([]uint32, 1025)...)), api.ErrMany},
	} {
		salvageRefuses(t, x.what, x.l, x.e)
	}
}
