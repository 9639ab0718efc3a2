// Package base has what several layers use beside api: first errors, lists, names,
// intervals, holes, integers of samples, quotients, and the lines and words of texts.
package base

import (
	"versine/api"
)

// FirstError returns the first error of a list, or OK. All of them have been
// computed when it is called, so each must be defined also where an earlier
// one is not OK.
func FirstError(errors ...api.Errno) api.Errno {
	for _, e := range errors {
		if e != api.OK {
			return e
		}
	}
	return api.OK
}

// ErrorIf returns the error if it is so, and OK otherwise.
func ErrorIf(is bool, e api.Errno) api.Errno {
	if is {
		return e
	}
	return api.OK
}

// CheckBetween returns ErrRange for a number that is not from least to most.
func CheckBetween(n, least, most int) api.Errno {
	return ErrorIf(n < least || n > most, api.ErrRange)
}

// CheckInterval returns ErrRange if an end of an interval is not from least to most, then
// ErrOrder if it ends before it begins, or OK.
func CheckInterval(x api.Interval, least, most int) api.Errno {
	return FirstError(
		CheckBetween(x.Low, least, most),
		CheckBetween(x.High, least, most),
		ErrorIf(x.Low > x.High, api.ErrOrder),
	)
}

// CheckEach returns the error of the first element with one, or OK.
func CheckEach[T any](l []T, check func(T) api.Errno) api.Errno {
	for _, x := range l {
		if e := check(x); e != api.OK {
			return e
		}
	}
	return api.OK
}

// Mapped returns the list of what f makes of each element.
func Mapped[T, U any](l []T, f func(T) U) []U {
	out := make([]U, len(l))
	for i, x := range l {
		out[i] = f(x)
	}
	return out
}

// Names is the names of a list that were seen.
type Names map[string]bool

// CheckNext returns ErrTwice for a name that was seen; from then on it was.
func (n Names) CheckNext(name string) api.Errno {
	e := ErrorIf(n[name], api.ErrTwice)
	n[name] = true
	return e
}

// CheckNamed returns ErrMany for more than so many elements, then the error of the first
// element with one: its own, or ErrTwice if one before has its name. Or it returns OK.
func CheckNamed[T any](l []T, most int, check func(T) api.Errno, nameOf func(T) string) api.Errno {
	if len(l) > most {
		return api.ErrMany
	}
	names := Names{}
	return CheckEach(l, func(x T) api.Errno {
		return FirstError(check(x), names.CheckNext(nameOf(x)))
	})
}
