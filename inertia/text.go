package inertia

import (
	"strconv"
	"strings"

	"versine/api"
	"versine/base"
)

// channelWord is the first word of each line.
const channelWord = "channel"

// checkChannels returns the first error of channels, or OK.
func checkChannels(l []Channel) api.Errno {
	return base.CheckNamed(l, api.MaxList, CheckChannel, func(c Channel) string { return c.Name })
}

// Print returns the text of channels.
func Print(l []Channel) (string, api.Errno) {
	if e := checkChannels(l); e != api.OK {
		return "", e
	}
	var s strings.Builder
	for _, c := range l {
		offset := base.IntegerOf(c.Offset)
		s.WriteString(base.Line(channelWord, c.Name, strconv.Itoa(offset), strconv.Itoa(c.Num), strconv.Itoa(c.Den)))
	}
	return s.String(), api.OK
}

// entry is what a line says: a channel with the integer of its offset, which may
// have errors.
type entry struct {
	Channel
	integer int
}

// channel returns the channel of an entry whose offset is a sample.
func (x entry) channel() Channel {
	c := x.Channel
	c.Offset = base.SampleOf(x.integer)
	return c
}

// checkOffset returns ErrRange if the offset is no sample.
func (x entry) checkOffset() api.Errno {
	return base.ErrorIf(!base.IsOfSample(x.integer), api.ErrRange)
}

// form returns the form of a line, by which its words are read into the entry.
func (x *entry) form() [5]base.Field {
	return [5]base.Field{
		base.WordField(channelWord),
		base.TextField(&x.Name),
		base.IntegerField(&x.integer),
		base.IntegerField(&x.Num),
		base.IntegerField(&x.Den),
	}
}

// readText returns what lines say, and the index of the first one with an error, or
// their number if there is none.
func readText(lines []string) ([]entry, int) {
	entries := make([]entry, len(lines))
	for i, line := range lines {
		form := entries[i].form()
		if !base.ReadLine(line, form[:]...) {
			return nil, i
		}
	}
	return entries, len(lines)
}

// channelsOf returns the channels of entries.
func channelsOf(entries []entry) []Channel { return base.Mapped(entries, entry.channel) }

// checkEntries returns the first error of an offset, then of the channels of entries,
// or OK.
func checkEntries(entries []entry) api.Errno {
	return base.FirstError(base.CheckEach(entries, entry.checkOffset), checkChannels(channelsOf(entries)))
}

// Parse returns the channels of a text, and the index of the first line that is wrong.
func Parse(s string) ([]Channel, int, api.Errno) {
	entries, line, e := base.ParseText(s, api.MaxText, readText, checkEntries)
	return channelsOf(entries), line, e
}
