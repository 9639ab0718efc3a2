package inertia

import (
	"slices"
	"strconv"
	"strings"

	"versine/api"
	"versine/base"
)

// channelWord is the first word of each line.
const channelWord = "channel"

// checkChannels returns the first error of channels, or OK.
func checkChannels(l []Channel) api.Errno {
	if len(l) > api.MaxList {
		return api.ErrMany
	}
	names := map[string]bool{}
	for _, c := range l {
		if e := base.FirstError(CheckChannel(c), base.ErrorIf(names[c.Name], api.ErrTwice)); e != api.OK {
			return e
		}
		names[c.Name] = true
	}
	return api.OK
}

// Print returns the text of channels.
func Print(l []Channel) (string, api.Errno) {
	if e := checkChannels(l); e != api.OK {
		return "", e
	}
	var s strings.Builder
	for _, c := range l {
		offset := base.IntegerOf(c.Offset)
		s.WriteString(base.Line(channelWord, c.Name, strconv.Itoa(offset), strconv.Itoa(c.Num), strconv.Itoa(c.Den)))
	}
	return s.String(), api.OK
}

// entry is what a line says: a channel with the integer of its offset, which may
// have errors.
type entry struct {
	Channel
	integer int
}

// channel returns the channel of an entry whose offset is a sample.
func (x entry) channel() Channel {
	c := x.Channel
	c.Offset = base.SampleOf(x.integer)
	return c
}

// checkOffset returns ErrRange if the offset is no sample.
func (x entry) checkOffset() api.Errno {
	return base.ErrorIf(!base.IsOfSample(x.integer), api.ErrRange)
}

// field is how a word of a line is set, and whether it has the form of such a word.
type field struct {
	set func(word string) bool
}

// fields returns the fields of a line, by which its words are set in the entry.
func (x *entry) fields() [5]field {
	return [5]field{
		{func(word string) bool { return word == channelWord }},
		{x.setName},
		{setter(&x.integer)},
		{setter(&x.Num)},
		{setter(&x.Den)},
	}
}

func (x *entry) setName(word string) bool {
	x.Name = word
	return word != ""
}

// setter returns how a word is set in an integer.
func setter(to *int) func(word string) bool {
	return func(word string) bool {
		n, isInteger := base.Integer(word, base.MaxDigits)
		*to = n
		return isInteger
	}
}

// entryOf returns what a line says, and whether it has the form of a line.
func entryOf(line string) (entry, bool) {
	words, isRight := strings.CutSuffix(line, "\n")
	next := base.WordsOf(words).Next
	var x entry
	for _, f := range x.fields() {
		word, _ := next()
		if !f.set(word) {
			isRight = false
		}
	}
	_, more := next()
	return x, isRight && !more
}

// Parse returns the channels of a text, and the index of the first line that is wrong.
func Parse(s string) ([]Channel, int, api.Errno) {
	if len(s) > api.MaxText {
		return nil, 0, api.ErrLong
	}
	lines := slices.Collect(strings.Lines(s))
	entries := make([]entry, len(lines))
	for i, line := range lines {
		x, isRight := entryOf(line)
		if !isRight {
			return nil, i, api.ErrSyntax
		}
		entries[i] = x
	}
	channels := base.Mapped(entries, entry.channel)
	if e := base.FirstError(base.CheckEach(entries, entry.checkOffset), checkChannels(channels)); e != api.OK {
		return nil, len(lines), e
	}
	return channels, 0, api.OK
}
