// Package trace is layer 1 (chapter doc/01-trace.md): names, ratios, samples, shots with holes, convolution, transforms of four samples, texts and streams.
package trace

// Limits of headers, factors and taps.
const (
	Headers   = 8
	MaxFactor = 1024
	MaxTaps   = 16
	MaxTap    = 64
)

// Trace is samples with a header, or a hole.
type Trace struct {
	Header  [Headers]int
	Hole    bool
	Samples []float32
}

// Shot is the traces of a shot.
type Shot struct {
	Name   string
	Traces []Trace
}
