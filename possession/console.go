package possession

import (
	"slices"
	"strconv"
	"strings"

	"versine/api"
	"versine/base"
)

// noAnswer is the result of a question of which the answer has no words.
const noAnswer = "none"

// Session is a console: a history that grows.
type Session struct{ history }

// question is what a question is asked of, and its answer's words by the names of these.
type question struct {
	of     []finder
	answer func(r Register, names []string) []string
}

// questions returns all questions, by their words.
func questions() map[string]question {
	track, possession := []finder{Register.findTrack}, []finder{Register.findPossession}
	return map[string]question{
		"speed": {track, func(r Register, names []string) []string {
			return []string{strconv.Itoa(r.permitted(names[0]))}
		}},
		"trains": {track, func(r Register, names []string) []string {
			isOnTrack := func(t Train) bool { return t.Track == names[0] }
			return base.Mapped(filtered(r.Trains, isOnTrack), nameOf)
		}},
		"barrier": {possession, func(r Register, names []string) []string {
			p, _ := found(r.Possessions, names[0])
			return r.barrier(p)
		}},
		"persons": {possession, func(r Register, names []string) []string {
			p, _ := found(r.Possessions, names[0])
			return []string{strconv.Itoa(p.Persons)}
		}},
		"silent": {nil, func(r Register, _ []string) []string { return base.Mapped(r.silent(), nameOf) }},
		"taken":  {nil, func(r Register, _ []string) []string { return base.Mapped(r.open(), nameOf) }},
		"machines": {nil, func(r Register, _ []string) []string {
			return slices.Concat(base.Mapped(r.Machines, Machine.words)...)
		}},
	}
}

// words returns the words of an answer for a machine.
func (m Machine) words() []string { return []string{m.Name, m.Possession} }

// answered returns the answer to a line that asks this question by a word.
func (q question) answered(r Register, line, word string) (string, api.Errno) {
	asked, isRead := read(line, word, len(q.of), 0)
	if !isRead {
		return "", api.ErrSyntax
	}
	for i, find := range q.of {
		if e := checkThere(r, find, asked.Names[i]); e != api.OK {
			return "", e
		}
	}
	words := q.answer(r, asked.Names)
	if len(words) == 0 {
		return noAnswer, api.OK
	}
	return strings.Join(words, " "), api.OK
}

// New returns a session without events.
func New() *Session { return &Session{} }

// Open returns the session with the events of a log, of which the last record may be torn.
func Open(log string) (*Session, api.Errno) {
	l, _, e := Recover(log)
	if e != api.OK && e != api.ErrTorn {
		return nil, e
	}
	h, _, e := replayed(l)
	if e != api.OK {
		return nil, e
	}
	return &Session{h}, api.OK
}

// record adds the event of a line of a kind.
func (s *Session) record(all kinds, line, word string) (string, api.Errno) {
	k := all[word]
	e, isRead := read(line, word, len(k.names), k.values)
	bad := base.FirstError(
		base.ErrorIf(!isRead, api.ErrSyntax),
		base.ErrorIf(len(s.events) >= api.MaxEvents, api.ErrMany),
	)
	if bad != api.OK {
		return "", bad
	}
	e.Number = len(s.events) + 1
	if bad := s.next(all, e); bad != api.OK {
		return "", bad
	}
	return "done " + strconv.Itoa(e.Number), api.OK
}

// Do executes a line, and returns its result.
func (s *Session) Do(line string) (string, api.Errno) {
	if s == nil {
		return "", api.ErrState
	}
	if len(line) > api.MaxText {
		return "", api.ErrLong
	}
	if line == "" {
		return "", api.ErrSyntax
	}
	word, all := firstWord(line), allKinds()
	if q, isQuestion := questions()[word]; isQuestion {
		return q.answered(s.register(), line, word)
	}
	if _, isKind := all[word]; isKind {
		return s.record(all, line, word)
	}
	return "", api.ErrKind
}

// Events returns the events.
func (s *Session) Events() []api.Event {
	if s == nil {
		return nil
	}
	return base.Mapped(s.events, copied)
}

// Log returns the log of the events.
func (s *Session) Log() string {
	if s == nil {
		return ""
	}
	return strings.Join(base.Mapped(s.events, recordOf), "")
}
