package sample

import (
	"versine/api"
)

// turns has the powers of -i, from the power 0 on.
var turns = [4]api.Gauss{{Re: 1, Im: 0}, {Re: 0, Im: -1}, {Re: -1, Im: 0}, {Re: 0, Im: 1}}

// turn returns -i to a power from 0 on.
func turn(power int) complex64 {
	g := turns[power%len(turns)]
	return complex(float32(g.Re), float32(g.Im))
}

// Four returns the transform of four samples.
func Four(l [4]float32) ([4]complex64, api.Errno) {
	if e := checkSamples(l[:]...); e != api.OK {
		return [4]complex64{}, e
	}
	var p [4]complex64
	for k := range p {
		for n, x := range l {
			p[k] += complex(x, 0) * turn(k*n)
		}
	}
	return p, api.OK
}

// Unfour returns the samples of a panel.
func Unfour(p [4]complex64) ([4]float32, api.Errno) {
	for _, z := range p {
		if e := checkParts(real(z), imag(z)); e != api.OK {
			return [4]float32{}, e
		}
	}
	var l [4]float32
	for n := range l {
		var sum complex64
		for k, z := range p {
			sum += z * turn(3*k*n) // the power 3 of -i is i, which turns back
		}
		l[n] = real(sum) / 4
		if imag(sum) != 0 || CheckSample(l[n]) != api.OK {
			return [4]float32{}, api.ErrForm
		}
	}
	return l, api.OK
}

// checkParts returns the first error of the parts of a number of a panel, or OK.
func checkParts(parts ...float32) api.Errno {
	for _, x := range parts {
		if !isFinite(x) {
			return api.ErrForm
		}
	}
	for _, x := range parts {
		if !isStep(x, 4*api.MaxValue) {
			return api.ErrRange
		}
	}
	return api.OK
}
