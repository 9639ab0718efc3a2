package sample

import (
	"iter"
	"math"
	"slices"

	"versine/api"
	"versine/base"
)

const (
	maxSource = 255
	counters  = 65536 // counters of a source, after which they begin again
	readings  = 4     // the index of the first reading in a frame
	width     = 4     // bytes of a sample, and of a checksum

	checkFactor  = 271
	checkModulus = 16777213
)

func checkPacket(p Packet) api.Errno {
	return base.FirstError(
		base.CheckBetween(p.Source, 0, maxSource),
		base.CheckBetween(p.Counter, 0, counters-1),
		checkSamples(p.Readings[:]...),
	)
}

// checksum returns the checksum of bytes.
func checksum(s []byte) int {
	x := 1
	for b := range slices.Values(s) {
		x = (checkFactor*x + int(b)) % checkModulus
	}
	return x
}

// withNumber appends a number in so many bytes, the highest one first.
func withNumber(s []byte, n, bytes int) []byte {
	for k := range bytes {
		s = append(s, byte(n>>(8*(bytes-1-k))))
	}
	return s
}

// numberOf returns the number of bytes of which the highest one is the first.
func numberOf(s []byte) int {
	n := 0
	for b := range slices.Values(s) {
		n = n<<8 | int(b)
	}
	return n
}

// withSample appends the four bytes of a sample, with 0 in place of -0.
func withSample(s []byte, x float32) []byte {
	if x == 0 {
		x = 0
	}
	return withNumber(s, int(math.Float32bits(x)), width)
}

// floatOf returns the number of four bytes, which need not be a sample.
func floatOf(s []byte) float32 { return math.Float32frombits(uint32(numberOf(s))) }

// frameOf returns the frame of a packet without an error.
func frameOf(p Packet) [Size]byte {
	s := withNumber([]byte{Mark, byte(p.Source)}, p.Counter, 2)
	for _, x := range p.Readings {
		s = withSample(s, x)
	}
	return [Size]byte(withNumber(s, checksum(s), width))
}

// Encode returns the frame of a packet.
func Encode(p Packet) ([Size]byte, api.Errno) {
	if e := checkPacket(p); e != api.OK {
		return [Size]byte{}, e
	}
	return frameOf(p), api.OK
}

// Decode returns the packet of a frame.
func Decode(s [Size]byte) (Packet, api.Errno) {
	p := Packet{Source: int(s[1]), Counter: numberOf(s[2:readings])}
	for i := range p.Readings {
		at := readings + width*i
		p.Readings[i] = floatOf(s[at : at+width])
	}
	body := s[:Size-width]
	e := base.FirstError(
		base.ErrorIf(s[0] != Mark, api.ErrForm),
		base.ErrorIf(numberOf(s[Size-width:]) != checksum(body), api.ErrCheck),
		checkSamples(p.Readings[:]...),
		base.ErrorIf(frameOf(p) != s, api.ErrForm), // now only a reading -0 is written otherwise
	)
	if e != api.OK {
		return Packet{}, e
	}
	return p, api.OK
}

// frames visits the packets that come in a stream, each with the place of its frame.
func frames(s []byte) iter.Seq2[int, Packet] {
	return func(yield func(int, Packet) bool) {
		for at := 0; at+Size <= len(s); {
			p, e := Decode([Size]byte(s[at : at+Size]))
			if e != api.OK {
				at++
				continue
			}
			if !yield(at, p) {
				return
			}
			at += Size
		}
	}
}

// Received returns the packets of a stream, and the spans of all bytes that are skipped.
func Received(s []byte) ([]Packet, []api.Span, api.Errno) {
	if len(s) > MaxPackets*Size {
		return nil, nil, api.ErrLong
	}
	var packets []Packet
	var skipped []api.Span
	end := 0
	for at, p := range frames(s) {
		skipped = withSpan(skipped, end, at)
		packets = append(packets, p)
		end = at + Size
	}
	return packets, withSpan(skipped, end, len(s)), api.OK
}

// withSpan appends a span, unless it is empty.
func withSpan(l []api.Span, from, to int) []api.Span {
	if from == to {
		return l
	}
	return append(l, api.Span{From: from, To: to})
}

// Lost returns the counters of a source that are lost.
func Lost(l []Packet, source int) ([]int, api.Errno) {
	if len(l) > MaxPackets {
		return nil, api.ErrMany
	}
	errors := base.Mapped(l, checkPacket)
	if e := base.FirstError(base.FirstError(errors...), base.CheckBetween(source, 0, maxSource)); e != api.OK {
		return nil, e
	}
	lost, all := lostOf(l, source)
	if !all {
		return nil, api.ErrMany
	}
	return lost, api.OK
}

// lostOf returns the counters that are lost, and whether these are all, which is
// not so if there are more than MaxList.
func lostOf(l []Packet, source int) ([]int, bool) {
	var lost []int
	all := true
	none := Packet{Source: -1}
	last := none
search:
	for _, p := range l {
		if p.Source != source {
			continue
		}
		if last == none {
			last = p
			continue
		}
		for c := following(last.Counter); c != p.Counter; c = following(c) {
			if len(lost) == api.MaxList {
				all = false
				break search
			}
			lost = append(lost, c)
		}
		last = p
	}
	return lost, all
}

// following returns the counter after a counter.
func following(counter int) int { return (counter + 1) % counters }
