// Package sample is layer 1: names, ratios, samples, runs with holes, votes,
// transforms of four, packets, texts and streams (doc/01-sample.md).
package sample

import (
	"versine/api"
)

// Limits of factors, steps, packets and frames.
const (
	MaxScale   = 1000
	MaxStep    = 64
	MaxPackets = 1024
	Size       = 20
	Mark       = 90
)

// Run is samples from a place on, with holes.
type Run struct {
	Name    string
	First   int
	Samples []float32
	Holes   []api.Span
}

// Packet is three readings of a source, with a counter.
type Packet struct {
	Source   int
	Counter  int
	Readings [3]float32
}
