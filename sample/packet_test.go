package sample_test

import (
	"bytes"
	"encoding/binary"
	"math"
	"math/rand/v2"
	"slices"
	"testing"

	"versine/api"
	"versine/sample"
)

// checksum is the checksum of the chapter.
func checksum(s []byte) uint32 {
	x := uint64(1)
	for _, b := range s {
		x = (271*x + uint64(b)) % 16777213
	}
	return uint32(x)
}

// sealed returns bytes with their checksum.
func sealed(s ...byte) []byte { return binary.BigEndian.AppendUint32(slices.Clone(s), checksum(s)) }

// frame returns the frame with these readings, which need not be samples.
func frame(source, counter int, readings ...float32) [sample.Size]byte {
	s := []byte{90, byte(source), byte(counter >> 8), byte(counter)}
	for _, x := range readings {
		s = binary.BigEndian.AppendUint32(s, math.Float32bits(x))
	}
	return [sample.Size]byte(sealed(s...))
}

func packet(source, counter int, a, b, c float32) sample.Packet {
	return sample.Packet{Source: source, Counter: counter, Readings: [3]float32{a, b, c}}
}

// somePacket returns a packet with any source, counter and readings.
func somePacket(g *rand.Rand) sample.Packet {
	n := func() float32 { return float32(g.IntN(32769)-16384) / 16 }
	return packet(g.IntN(256), g.IntN(65536), n(), n(), n())
}

// badPackets returns packets with each error, where those that are listed later are there, too.
func badPackets() map[sample.Packet]api.Errno {
	return map[sample.Packet]api.Errno{
		packet(-1, 0, infinite, 0, 0):            api.ErrRange,
		packet(256, 0, 0, 0, 0):                  api.ErrRange,
		packet(math.MinInt, 0, 0, 0, 0):          api.ErrRange,
		packet(math.MaxInt, 0, 0, 0, 0):          api.ErrRange,
		packet(0, -1, infinite, 0, 0):            api.ErrRange,
		packet(0, 65536, 0, 0, 0):                api.ErrRange,
		packet(0, math.MaxInt, 0, 0, 0):          api.ErrRange,
		packet(0, 0, 0.01, infinite, 0):          api.ErrRange,
		packet(0, 0, 0, 0, 1024.0625):            api.ErrRange,
		packet(0, 0, 0, -1025, 0):                api.ErrRange,
		packet(0, 0, infinite, 2000, 0):          api.ErrForm,
		packet(0, 0, 0, 0, -infinite):            api.ErrForm,
		packet(255, 65535, 0, infinite, 0.03125): api.ErrForm,
	}
}

func TestEncode(t *testing.T) {
	f, e := sample.Encode(packet(1, 258, 1, -0.5, 0))
	want(t, "Encode", list(f, e), list([20]byte{90, 1, 1, 2, 63, 128, 0, 0, 191, 0, 0, 0, 0, 0, 0, 0, 0, 4, 25, 209}, api.OK))
	f, e = sample.Encode(packet(255, 65535, -1024, 1024, 0.0625))
	want(t, "Encode", list(f, e), list([20]byte{90, 255, 255, 255, 196, 128, 0, 0, 68, 128, 0, 0, 61, 128, 0, 0, 0, 52, 111, 139}, api.OK))
	f, e = sample.Encode(packet(0, 0, minusZero, minusZero, minusZero))
	want(t, "Encode of -0", list(f, e), list([20]byte{90, 0, 0, 0, 0, 0, 0, 0, 0, 0, 0, 0, 0, 0, 0, 0, 0, 14, 199, 166}, api.OK))
	for p, wanted := range badPackets() {
		f, e := sample.Encode(p)
		want(t, "Encode of no packet", list(p, f, e), list(p, [20]byte{}, wanted))
	}
	f, e = sample.Encode(packet(0, 0, 0, nan, 0))
	want(t, "Encode of NaN", list(f, e), list([20]byte{}, api.ErrForm))
	g := source(5)
	for range 1000 {
		p := somePacket(g)
		f, e := sample.Encode(p)
		want(t, "Encode", list(p, f, e), list(p, frame(p.Source, p.Counter, p.Readings[:]...), api.OK))
		q, e := sample.Decode(f)
		want(t, "Decode", list(f, q, e), list(f, p, api.OK))
	}
}

func TestDecode(t *testing.T) {
	change := func(f [20]byte, at int, b byte) [20]byte {
		f[at] = b
		return f
	}
	good := frame(1, 258, 1, -0.5, 0)
	for i, x := range []struct {
		f [20]byte
		p sample.Packet
		e api.Errno
	}{
		{good, packet(1, 258, 1, -0.5, 0), api.OK},
		{frame(255, 65535, 1024, -1024, 0.0625), packet(255, 65535, 1024, -1024, 0.0625), api.OK},
		{frame(0, 0, 0, 0, 0), packet(0, 0, 0, 0, 0), api.OK},
		{[20]byte{}, sample.Packet{}, api.ErrForm},
		{change(good, 0, 91), sample.Packet{}, api.ErrForm},
		{[20]byte(sealed(append([]byte{89}, good[1:16]...)...)), sample.Packet{}, api.ErrForm},
		{change(frame(1, 258, nan, 0.01, minusZero), 19, 1), sample.Packet{}, api.ErrCheck},
		{frame(1, 258, 0, minusZero, nan), sample.Packet{}, api.ErrForm},
		{frame(1, 258, minusZero, 0.01, nan), sample.Packet{}, api.ErrRange},
		{frame(1, 258, 2000, nan, 0), sample.Packet{}, api.ErrRange},
		{frame(1, 258, 0, 0, infinite), sample.Packet{}, api.ErrForm},
		{frame(1, 258, -infinite, 0, 2000), sample.Packet{}, api.ErrForm},
		{frame(1, 258, minusZero, 0, 0), sample.Packet{}, api.ErrForm},
		{frame(1, 258, 0, minusZero, 0), sample.Packet{}, api.ErrForm},
		{frame(1, 258, 1, 2, minusZero), sample.Packet{}, api.ErrForm},
		{frame(1, 258, 1, 2, math.SmallestNonzeroFloat32), sample.Packet{}, api.ErrRange},
	} {
		p, e := sample.Decode(x.f)
		want(t, "Decode", list(i, p, e), list(i, x.p, x.e))
	}
	for at := 1; at < 20; at++ {
		for b := range 256 {
			f := change(good, at, byte(b))
			if f == good {
				continue
			}
			p, e := sample.Decode(f)
			want(t, "Decode of a damaged frame", list(f, p, e), list(f, sample.Packet{}, api.ErrCheck))
		}
	}
}

// joined returns frames and other bytes, one after the other.
func joined(parts ...[]byte) []byte { return bytes.Join(parts, nil) }

func TestReceived(t *testing.T) {
	p, q := packet(1, 258, 1, -0.5, 0), packet(90, 0x5a5a, 3, 0, -1024)
	f, g := frame(1, 258, 1, -0.5, 0), frame(90, 0x5a5a, 3, 0, -1024)
	inner := frame(7, 8, 0, 0, 0)
	late := slices.Clone(f[:])
	late[19]++
	zero := frame(1, 1, minusZero, 0, 0)
	for i, x := range []struct {
		s       []byte
		l       []sample.Packet
		skipped []api.Span
	}{
		{nil, nil, nil},
		{[]byte{90}, nil, []api.Span{span(0, 1)}},
		{f[:], []sample.Packet{p}, nil},
		{f[:19], nil, []api.Span{span(0, 19)}},
		{f[1:], nil, []api.Span{span(0, 19)}},
		{joined([]byte{7, 90}, f[:]), []sample.Packet{p}, []api.Span{span(0, 2)}},
		{joined(f[:], []byte{7, 90}), []sample.Packet{p}, []api.Span{span(20, 22)}},
		{joined(f[:], g[:]), []sample.Packet{p, q}, nil},
		{joined(f[:], f[:], f[:19]), []sample.Packet{p, p}, []api.Span{span(40, 59)}},
		{joined([]byte{1}, f[:], []byte{2, 3}, g[:], []byte{4}), []sample.Packet{p, q}, []api.Span{span(0, 1), span(21, 23), span(43, 44)}},
		{joined(f[:10], f[:]), []sample.Packet{p}, []api.Span{span(0, 10)}},
		{joined(late, f[:]), []sample.Packet{p}, []api.Span{span(0, 20)}},
		{joined(f[:], late, g[:]), []sample.Packet{p, q}, []api.Span{span(20, 40)}},
		{joined(f[:], late), []sample.Packet{p}, []api.Span{span(20, 40)}},
		{joined(f[:5], inner[:], f[5:]), []sample.Packet{packet(7, 8, 0, 0, 0)}, []api.Span{span(0, 5), span(25, 40)}},
		{joined(zero[:], f[:]), []sample.Packet{p}, []api.Span{span(0, 20)}},
		{bytes.Repeat([]byte{90}, 100), nil, []api.Span{span(0, 100)}},
		{make([]byte, 20480), nil, []api.Span{span(0, 20480)}},
		{bytes.Repeat(f[:], 1024), slices.Repeat([]sample.Packet{p}, 1024), nil},
	} {
		l, skipped, e := sample.Received(x.s)
		want(t, "Received", list(i, l, skipped, e), list(i, x.l, x.skipped, api.OK))
	}
	l, skipped, e := sample.Received(append(bytes.Repeat(f[:], 1024), 0))
	want(t, "Received of too many bytes", list(l, skipped, e), list([]sample.Packet(nil), []api.Span(nil), api.ErrLong))
}

// heard is what is received of a stream, found byte by byte.
func heard(s []byte) ([]sample.Packet, []api.Span) {
	var l []sample.Packet
	var skipped []api.Span
	for at := 0; at < len(s); {
		if at+20 <= len(s) {
			p, e := sample.Decode([20]byte(s[at : at+20]))
			if e == api.OK {
				l = append(l, p)
				at += 20
				continue
			}
		}
		if len(skipped) > 0 && skipped[len(skipped)-1].To == at {
			skipped[len(skipped)-1].To++
		} else {
			skipped = append(skipped, span(at, at+1))
		}
		at++
	}
	return l, skipped
}

func TestReceivedOfAnything(t *testing.T) {
	g := source(6)
	for range 500 {
		var s []byte
		for range g.IntN(12) {
			f, _ := sample.Encode(somePacket(g))
			switch g.IntN(4) {
			case 0:
				s = append(s, f[g.IntN(20):]...)
			case 1:
				s = append(s, f[:g.IntN(20)]...)
			default:
				s = append(s, f[:]...)
			}
			if len(s) > 0 && g.IntN(4) == 0 {
				s[g.IntN(len(s))] = byte(g.IntN(256))
			}
		}
		l, skipped, e := sample.Received(s)
		l2, skipped2 := heard(s)
		want(t, "Received", list(s, l, skipped, e), list(s, l2, skipped2, api.OK))
	}
}

// ofSource returns packets with these counters, of the source 3; negative ones are of the source 4.
func ofSource(counters ...int) []sample.Packet {
	var l []sample.Packet
	for _, n := range counters {
		if n < 0 {
			l = append(l, packet(4, -n, 0, 0, 0))
			continue
		}
		l = append(l, packet(3, n, 1, 2, 3))
	}
	return l
}

// upTo returns the numbers from a number on, before another one.
func upTo(from, to int) []int {
	var l []int
	for n := from; n < to; n++ {
		l = append(l, n)
	}
	return l
}

func TestLost(t *testing.T) {
	for i, x := range []struct {
		l      []sample.Packet
		source int
		lost   []int
		e      api.Errno
	}{
		{nil, 3, nil, api.OK},
		{ofSource(5), 3, nil, api.OK},
		{ofSource(5, 6, 7), 3, nil, api.OK},
		{ofSource(65535, 0), 3, nil, api.OK},
		{ofSource(65535, 1), 3, []int{0}, api.OK},
		{ofSource(65534, 0), 3, []int{65535}, api.OK},
		{ofSource(65533, 2), 3, []int{65534, 65535, 0, 1}, api.OK},
		{ofSource(5, -1, 8, -2), 3, []int{6, 7}, api.OK},
		{ofSource(5, -1, 8, -2), 4, nil, api.OK},
		{ofSource(5, -1, 8, -4, -2), 5, nil, api.OK},
		{ofSource(-10, 5, -13, 6), 4, []int{11, 12}, api.OK},
		{ofSource(5, 8, 10, 13), 3, []int{6, 7, 9, 11, 12}, api.OK},
		{ofSource(0, 2, 65535), 3, nil, api.ErrMany},
		{ofSource(0, 257), 3, upTo(1, 257), api.OK},
		{ofSource(0, 258), 3, nil, api.ErrMany},
		{ofSource(0, 129, 258), 3, append(upTo(1, 129), upTo(130, 258)...), api.OK},
		{ofSource(0, 129, 259), 3, nil, api.ErrMany},
		{ofSource(0, 257, 258), 3, upTo(1, 257), api.OK},
		{ofSource(0, 257, 259), 3, nil, api.ErrMany},
		{ofSource(5, 5), 3, nil, api.ErrMany},
		{ofSource(6, 5), 3, nil, api.ErrMany},
		{ofSource(5, 6, 5, 6), 3, nil, api.ErrMany},
		{ofSource(-5, -5), 3, nil, api.OK},
		{ofSource(upTo(0, 1024)...), 3, nil, api.OK},
		{ofSource(upTo(0, 1025)...), 3, nil, api.ErrMany},
		{make([]sample.Packet, 1025), -1, nil, api.ErrMany},
		{append(make([]sample.Packet, 1024), sample.Packet{Source: -1}), 3, nil, api.ErrMany},
		{[]sample.Packet{{Source: -1}}, -1, nil, api.ErrRange},
		{ofSource(1, 65536), 3, nil, api.ErrRange},
		{[]sample.Packet{packet(3, 0, 0, 0, 0), packet(4, 0, infinite, 0, 0), packet(3, 0, 2000, 0, 0)}, -1, nil, api.ErrForm},
		{[]sample.Packet{packet(3, 0, 0, 0, 0), packet(4, 0, 2000, 0, 0), packet(3, 0, infinite, 0, 0)}, -1, nil, api.ErrRange},
		{ofSource(5, 5), -1, nil, api.ErrRange},
		{ofSource(5, 5), 256, nil, api.ErrRange},
		{nil, math.MinInt, nil, api.ErrRange},
		{nil, math.MaxInt, nil, api.ErrRange},
		{[]sample.Packet{packet(0, 1, 0, 0, 0), packet(0, 3, 0, 0, 0)}, 0, []int{2}, api.OK},
		{[]sample.Packet{packet(255, 1, 0, 0, 0), packet(255, 3, minusZero, 0, 0)}, 255, []int{2}, api.OK},
		{[]sample.Packet{packet(0, 0, 0, 0, 0), packet(0, 2, 0, 0, 0), packet(0, 3, 0, 0, 0)}, 0, []int{1}, api.OK},
	} {
		lost, e := sample.Lost(x.l, x.source)
		want(t, "Lost", list(i, lost, e), list(i, x.lost, x.e))
	}
	for n := range 256 {
		lost, e := sample.Lost([]sample.Packet{packet(n, 0, 0, 0, 0), packet(n, 2, 0, 0, 0), packet(n, 3, 0, 0, 0)}, n)
		want(t, "Lost of each source", list(n, lost, e), list(n, []int{1}, api.OK))
	}
	for p, wanted := range badPackets() {
		lost, e := sample.Lost([]sample.Packet{packet(1, 1, 0, 0, 0), p}, 256)
		want(t, "Lost of no packet", list(p, lost, e), list(p, []int(nil), wanted))
	}
}
