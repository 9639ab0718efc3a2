package sample

import (
	"math"
	"slices"

	"versine/api"
	"versine/base"
)

// heading is the beginning of each stream.
const heading = "RUNS"

// Pack returns the stream of a run.
func Pack(r Run) ([]byte, api.Errno) {
	if e := CheckRun(r); e != api.OK {
		return nil, e
	}
	s := append([]byte(heading), byte(len(r.Name)))
	s = append(s, r.Name...)
	s = withNumber(s, r.First, 4)
	s = withNumber(s, len(r.Samples), 2)
	for _, x := range r.Samples {
		s = withSample(s, x)
	}
	s = withNumber(s, len(r.Holes), 2)
	for _, h := range r.Holes {
		s = withNumber(s, h.From, 2)
		s = withNumber(s, h.To, 2)
	}
	return withNumber(s, checksum(s), width), api.OK
}

// cursor reads a stream from left to right. It is torn from where something was
// to be read that is not there; from then on it reads nothing but zeros.
type cursor struct {
	rest []byte
	torn bool
}

// take reads bytes.
func (c *cursor) take(bytes int) []byte {
	if c.torn || bytes > len(c.rest) {
		c.torn = true
		return nil
	}
	s := c.rest[:bytes]
	c.rest = c.rest[bytes:]
	return s
}

// number reads a number.
func (c *cursor) number(bytes int) int { return numberOf(c.take(bytes)) }

// run reads a run, which may have errors, behind the heading of a stream.
func (c *cursor) run() Run {
	var r Run
	r.Name = string(c.take(c.number(1)))
	r.First = c.number(4)
	for range c.number(2) {
		r.Samples = append(r.Samples, floatOf(c.take(width)))
	}
	for range c.number(2) {
		from := c.number(2)
		to := c.number(2)
		r.Holes = append(r.Holes, api.Span{From: from, To: to})
	}
	return r
}

// Unpack returns the run with a stream.
func Unpack(s []byte) (Run, api.Errno) {
	if len(s) > api.MaxStream {
		return Run{}, api.ErrLong
	}
	c := cursor{rest: s}
	start := c.take(len(heading))
	if e := base.FirstError(base.ErrorIf(c.torn, api.ErrTorn), base.ErrorIf(string(start) != heading, api.ErrForm)); e != api.OK {
		return Run{}, e
	}
	r := c.run()
	sum := c.number(width)
	e := base.FirstError( // a stream with a heading is not shorter than a checksum
		base.ErrorIf(c.torn, api.ErrTorn),
		base.ErrorIf(len(c.rest) > 0, api.ErrShape),
		base.ErrorIf(sum != checksum(s[:len(s)-width]), api.ErrCheck),
		CheckRun(r),
		base.ErrorIf(slices.ContainsFunc(r.Samples, isMinusZero), api.ErrForm),
	)
	if e != api.OK {
		return Run{}, e
	}
	return r, api.OK
}

func isMinusZero(x float32) bool { return x == 0 && math.Signbit(float64(x)) }
