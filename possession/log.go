package possession

import (
	"slices"
	"strconv"
	"strings"

	"versine/api"
	"versine/base"
)

const (
	sumFactor  = 347
	sumModulus = 9999677
	sumDigits  = 7
	sumMark    = "#" // between a body and its checksum
	digits     = "0123456789"
)

// checksum returns the checksum of a string.
func checksum(s string) string {
	x := 1
	for _, b := range []byte(s) {
		x = (sumFactor*x + int(b)) % sumModulus
	}
	var sum [sumDigits]byte
	for i := range sumDigits { // the last digit is the first one
		sum[sumDigits-1-i] = digits[x%len(digits)]
		x /= len(digits)
	}
	return string(sum[:])
}

// bodyOf returns the body of an event.
func bodyOf(e api.Event) string {
	words := slices.Concat([]string{strconv.Itoa(e.Number), e.Kind}, e.Names, base.Mapped(e.Values, strconv.Itoa))
	return strings.Join(words, " ")
}

// recordOf returns the record of an event.
func recordOf(e api.Event) string {
	body := bodyOf(e)
	return body + sumMark + checksum(body) + "\n"
}

// read returns what a line says that has a word, and so many names and numbers behind it, and
// whether it has this form.
func read(line, word string, names, values int) (api.Event, bool) {
	e := api.Event{Kind: word, Names: make([]string, names), Values: make([]int, values)}
	form := []base.Field{base.WordField(word)}
	for i := range e.Names {
		form = append(form, base.TextField(&e.Names[i]))
	}
	for i := range e.Values {
		form = append(form, base.NumberField(&e.Values[i]))
	}
	return e, base.ReadLine(line+"\n", form...)
}

// firstWord returns the bytes before the first space of a line, or the whole line.
func firstWord(line string) string {
	word, _, _ := strings.Cut(line, " ")
	return word
}

// event returns the event with a body, and whether it has one, and no error of its own.
func (all kinds) event(body string) (api.Event, bool) {
	number, line, _ := strings.Cut(body, " ")
	word := firstWord(line)
	k := all[word]
	e, isRead := read(line, word, len(k.names), k.values)
	n, isNumber := base.Number(number)
	e.Number = n
	return e, isRead && isNumber && all.check(e) == api.OK
}

func areDigits(s string) bool {
	for _, c := range s {
		if !base.IsDigit(c) {
			return false
		}
	}
	return true
}

// recovered returns the event of a line of a log, or why it is no record.
func (all kinds) recovered(line string) (api.Event, api.Errno) {
	line, isWhole := strings.CutSuffix(line, "\n")
	if !isWhole {
		return api.Event{}, api.ErrTorn
	}
	at := len(line) - sumDigits
	body, isMarked := strings.CutSuffix(line[:max(at, 0)], sumMark)
	if !isMarked || !areDigits(line[at:]) {
		return api.Event{}, api.ErrSyntax
	}
	e, isEvent := all.event(body)
	return e, base.FirstError(
		base.ErrorIf(line[at:] != checksum(body), api.ErrCheck),
		base.ErrorIf(!isEvent, api.ErrSyntax),
	)
}

// Recover returns the events of the longest prefix that is a log, its length, and the error of
// the rest.
func Recover(log string) ([]api.Event, int, api.Errno) {
	if len(log) > api.MaxLog {
		return nil, 0, api.ErrLong
	}
	var l []api.Event
	length := 0
	all := allKinds()
	for line := range strings.Lines(log) {
		e, bad := all.recovered(line)
		if bad := base.FirstError(bad, base.ErrorIf(e.Number != len(l)+1, api.ErrOrder)); bad != api.OK {
			return l, length, bad
		}
		l = append(l, e)
		length += len(line)
	}
	return l, length, api.OK
}

// Append returns a log with one more record.
func Append(log string, e api.Event) (string, api.Errno) {
	l, _, bad := Recover(log)
	bad = base.FirstError(bad, CheckEvent(e), base.ErrorIf(e.Number != len(l)+1, api.ErrOrder))
	if bad != api.OK {
		return "", bad
	}
	longer := log + recordOf(e)
	if len(longer) > api.MaxLog {
		return "", api.ErrLong
	}
	return longer, api.OK
}
