package possession_test

import (
	"fmt"
	"math/rand/v2"
	"regexp"
	"slices"
	"strconv"
	"strings"
	"testing"

	"versine/api"
	"versine/possession"
)

// sum returns the checksum of a string, told in another way: of its bytes from the last one on.
func sum(s string) string {
	const modulus = 9999677
	x, power := 0, 1
	for i := len(s) - 1; i >= 0; i-- {
		x = (x + int(s[i])*power) % modulus
		power = power * 347 % modulus
	}
	return fmt.Sprintf("%07d", (x+power)%modulus)
}

// signed returns a body with its checksum.
func signed(body string) string { return body + "#" + sum(body) + "\n" }

// logOf returns the log of events.
func logOf(l []api.Event) string {
	s := ""
	for _, e := range l {
		s += signed(strconv.Itoa(e.Number) + " " + lineOf(e))
	}
	return s
}

// shownLog returns the log of the first n events of the examples.
func shownLog(n int) string { return logOf(shown(n)) }

// bodies returns the form of each kind's bodies.
func bodies() map[string]*regexp.Regexp {
	all := map[string]*regexp.Regexp{}
	for kind, s := range shapes() {
		form := `^([1-9][0-9]{0,2}|1000) ` + kind
		form += strings.Repeat(` [A-Za-z][A-Za-z0-9_]{0,23}`, len(s.names))
		form += strings.Repeat(` (0|[1-9][0-9]{0,8})`, s.values)
		all[kind] = regexp.MustCompile(form + `\z`)
	}
	return all
}

var (
	bodyForms  = bodies()
	recordForm = regexp.MustCompile(`(?s)^(.*)#([0-9]{7})\z`)
)

// eventIn returns the event with a body, if it is one.
func eventIn(body string) (api.Event, bool) {
	for _, form := range bodyForms {
		if form.MatchString(body) {
			number, line, _ := strings.Cut(body, " ")
			n, _ := strconv.Atoi(number)
			return event(n, line), true
		}
	}
	return api.Event{}, false
}

// recovered is Recover, as the chapter says it.
func recovered(log string) ([]api.Event, int, api.Errno) {
	if len(log) > 1000000 {
		return nil, 0, api.ErrLong
	}
	var l []api.Event
	for rest := log; rest != ""; {
		line, after, isWhole := strings.Cut(rest, "\n")
		e := api.Event{}
		bad := api.ErrTorn
		if isWhole {
			bad = api.ErrSyntax
			if parts := recordForm.FindStringSubmatch(line); parts != nil {
				bad = api.ErrCheck
				if sum(parts[1]) == parts[2] {
					bad = api.ErrSyntax
					if x, is := eventIn(parts[1]); is {
						e, bad = x, api.OK
					}
				}
			}
		}
		if bad == api.OK && e.Number != len(l)+1 {
			bad = api.ErrOrder
		}
		if bad != api.OK {
			return l, len(log) - len(rest), bad
		}
		l, rest = append(l, e), after
	}
	return l, len(log), api.OK
}

// checkRecovered checks Recover of a string against the model.
func checkRecovered(t *testing.T, what, log string) api.Errno {
	t.Helper()
	l, n, e := possession.Recover(log)
	wanted, m, f := recovered(log)
	want(t, fmt.Sprintf("Recover of %v, %q", what, log[:min(len(log), 300)]), list(l, n, e), list(wanted, m, f))
	return e
}

// TestShownChecksums checks the checksums of the chapter's examples, in records.
func TestShownChecksums(t *testing.T) {
	for body, wanted := range map[string]string{"": "0000001", "1": "0000396", "11": "0137461"} {
		want(t, "the checksum", list(body, sum(body)), list(body, wanted))
		for _, other := range words(wanted, "0000000", "0000002", "9999999") {
			e := api.ErrCheck
			if other == wanted {
				e = api.ErrSyntax
			}
			_, _, got := possession.Recover(body + "#" + other + "\n")
			want(t, "Recover", list(body, other, got), list(body, other, e))
		}
	}
	l := journal("track up 0 160", "undo")
	log, e := possession.Append("", l[0])
	want(t, "Append", list(log, e), list("1 track up 0 160#"+sum("1 track up 0 160")+"\n", api.OK))
	log, e = possession.Append(log, l[1])
	want(t, "Append", list(log, e), list(signed("1 track up 0 160")+signed("2 undo"), api.OK))
}

// TestAppended checks that logs grow by one record, and come back.
func TestAppended(t *testing.T) {
	for i, l := range append(journals(300, 60, 120), shown(15)) {
		log := ""
		for n, x := range l {
			longer, e := possession.Append(log, x)
			want(t, "Append", list(i, n, longer, e), list(i, n, logOf(l[:n+1]), api.OK))
			log = longer
		}
		back, n, e := possession.Recover(log)
		want(t, "Recover", list(i, back, n, e), list(i, l, len(log), api.OK))
	}
	unaccepted := journal("leave t 0", "undo", "undo", "track a 999999999 999999999", "track a 0 0") // a log need not be accepted
	log := ""
	for _, x := range unaccepted {
		longer, e := possession.Append(log, x)
		want(t, "Append of what is not accepted", list(e), list(api.OK))
		log = longer
	}
	back, n, e := possession.Recover(log)
	want(t, "Recover of what is not accepted", list(back, n, e), list(unaccepted, len(log), api.OK))
}

// TestErrorsOfAppend checks that the log's errors come before those of the event, and these before its number.
func TestErrorsOfAppend(t *testing.T) {
	log := shownLog(5)
	long := strings.Repeat("x", 1000001)
	nameless := event(6, "undo")
	nameless.Kind = "note"
	lettered := event(7, "undo")
	lettered.Text = "x"
	for i, x := range []struct {
		log string
		e   api.Event
		bad api.Errno
	}{
		{long, nameless, api.ErrLong}, {long[:1000000], nameless, api.ErrTorn}, {"9", nameless, api.ErrTorn}, {log + "\n", nameless, api.ErrSyntax}, {log + "6 undo#0000000\n", nameless, api.ErrCheck}, {log + signed("7 undo"), nameless, api.ErrOrder},
		{log[:len(log)-1], event(6, "undo"), api.ErrTorn}, {log[:len(log)-1], event(5, "undo"), api.ErrTorn},
		{log, nameless, api.ErrKind}, {log, lettered, api.ErrForm}, {log, event(0, "undo"), api.ErrRange}, {log, event(1001, "undo"), api.ErrRange}, {log, event(5, "undo 1"), api.ErrShape}, {log, event(5, "out a-b 1"), api.ErrName}, {log, event(5, "out a -1"), api.ErrRange},
		{log, event(5, "undo"), api.ErrOrder}, {log, event(7, "undo"), api.ErrOrder}, {log, event(1, "undo"), api.ErrOrder}, {"", event(2, "undo"), api.ErrOrder}, {"", event(1000, "undo"), api.ErrOrder},
	} {
		longer, e := possession.Append(x.log, x.e)
		checkError(t, fmt.Sprintf("Append %v", i), list(longer, e), x.bad)
	}
	full := logOf(journal(repeated(1000, "undo")...))
	back, n, e := possession.Recover(full)
	want(t, "Recover of all events that there may be", list(len(back), n, e), list(1000, len(full), api.OK))
	longer, e := possession.Append(full, event(1000, "undo"))
	checkError(t, "Append of an event too many", list(longer, e), api.ErrOrder)
	longer, e = possession.Append(full, event(1001, "undo"))
	checkError(t, "Append of an event too many", list(longer, e), api.ErrRange)
	back, n, e = possession.Recover(full + signed("1001 undo"))
	want(t, "Recover of an event too many", list(len(back), n, e), list(1000, len(full), api.ErrSyntax))
	back, n, e = possession.Recover(full + signed("1000 undo"))
	want(t, "Recover of an event twice", list(len(back), n, e), list(1000, len(full), api.ErrOrder))
}

// TestLongLogs checks the length of a log.
func TestLongLogs(t *testing.T) {
	log := shownLog(3)
	l, n, e := possession.Recover(log + strings.Repeat("x", 1000000-len(log)))
	want(t, "Recover of a long log", list(l, n, e), list(shown(3), len(log), api.ErrTorn))
	l, n, e = possession.Recover(log + strings.Repeat("x", 1000001-len(log)))
	checkError(t, "Recover of a log that is too long", list(l, n, e), api.ErrLong)
	l, n, e = possession.Recover(strings.Repeat("\n", 1000001))
	checkError(t, "Recover of a log that is too long", list(l, n, e), api.ErrLong)
	l, n, e = possession.Recover("")
	want(t, "Recover of nothing", list(l, n, e), list([]api.Event(nil), 0, api.OK))
}

// TestErrorsOfLines checks what is no record, behind some records.
func TestErrorsOfLines(t *testing.T) {
	undo, track := sum("4 undo"), "4 track a 0 9"
	name := strings.Repeat("a", 24)
	for line, e := range map[string]api.Errno{
		signed("4 undo"):                        api.OK,
		"4 undo#" + undo:                        api.ErrTorn,
		"x":                                     api.ErrTorn,
		"#":                                     api.ErrTorn,
		"\n":                                    api.ErrSyntax,
		"#\n":                                   api.ErrSyntax,
		"0000001\n":                             api.ErrSyntax,
		"#0000001\n":                            api.ErrSyntax,
		"#000001\n":                             api.ErrSyntax,
		"#0000002\n":                            api.ErrCheck,
		"##0000002\n":                           api.ErrCheck,
		"4 undo" + undo + "\n":                  api.ErrSyntax,
		"4 undo#" + undo[:6] + "\n":             api.ErrSyntax,
		"4 undo#" + undo[1:] + "\n":             api.ErrSyntax,
		"4 undo#0" + undo + "\n":                api.ErrSyntax,
		"4 undo#" + undo + " \n":                api.ErrSyntax,
		"4 undo#" + undo + "\r\n":               api.ErrSyntax,
		"4 undo #" + undo + "\n":                api.ErrCheck,
		"4 undo# " + undo[1:] + "\n":            api.ErrSyntax,
		"4 undo#+" + undo[1:] + "\n":            api.ErrSyntax,
		"4 undo#" + undo[:6] + "x\n":            api.ErrSyntax,
		"4 undo#" + undo[:5] + "é\n":            api.ErrSyntax,
		"4 undo#0000000\n":                      api.ErrCheck,
		"9 undo#0000000\n":                      api.ErrCheck,
		"x undo#0000000\n":                      api.ErrCheck,
		"4 undo\n#" + undo + "\n":               api.ErrSyntax,
		signed("4 undo#" + undo):                api.ErrSyntax,
		signed("4 undo "):                       api.ErrSyntax,
		signed(" 4 undo"):                       api.ErrSyntax,
		signed("4  undo"):                       api.ErrSyntax,
		signed("4 undo undo"):                   api.ErrSyntax,
		signed("4 undo 0"):                      api.ErrSyntax,
		signed("4"):                             api.ErrSyntax,
		signed("4 "):                            api.ErrSyntax,
		signed("undo"):                          api.ErrSyntax,
		signed("undo 4"):                        api.ErrSyntax,
		signed("4 note"):                        api.ErrSyntax,
		signed("4 speed up"):                    api.ErrSyntax,
		signed("4 Undo"):                        api.ErrSyntax,
		signed("04 undo"):                       api.ErrSyntax,
		signed("+4 undo"):                       api.ErrSyntax,
		signed("-4 undo"):                       api.ErrSyntax,
		signed("4.0 undo"):                      api.ErrSyntax,
		signed("0 undo"):                        api.ErrSyntax,
		signed("1001 undo"):                     api.ErrSyntax,
		signed("4294967300 undo"):               api.ErrSyntax,
		signed("3 undo"):                        api.ErrOrder,
		signed("5 undo"):                        api.ErrOrder,
		signed("1 undo"):                        api.ErrOrder,
		signed("1000 undo"):                     api.ErrOrder,
		signed(track):                           api.OK,
		signed(track + "#"):                     api.ErrSyntax,
		signed("4 track a 00 9"):                api.ErrSyntax,
		signed("4 track a 0 09"):                api.ErrSyntax,
		signed("4 track a 0 -9"):                api.ErrSyntax,
		signed("4 track a 0 +9"):                api.ErrSyntax,
		signed("4 track a 0"):                   api.ErrSyntax,
		signed("4 track a 0 9 9"):               api.ErrSyntax,
		signed("4 track 0 9"):                   api.ErrSyntax,
		signed("4 track a b 0 9"):               api.ErrSyntax,
		signed("4 track a 9 b"):                 api.ErrSyntax,
		signed("4 track 0 a 9"):                 api.ErrSyntax,
		signed("4 track  0 9"):                  api.ErrSyntax,
		signed("4 track a 0 "):                  api.ErrSyntax,
		signed("4 track a\t0 9"):                api.ErrSyntax,
		signed("4 track 1a 0 9"):                api.ErrSyntax,
		signed("4 track a# 0 9"):                api.ErrSyntax,
		signed("4 track é 0 9"):                 api.ErrSyntax,
		signed("4 track a 0 ٣"):                 api.ErrSyntax,
		signed("4 track " + name + " 0 9"):      api.OK,
		signed("4 track " + name + "a 0 9"):     api.ErrSyntax,
		signed("4 track a 999999999 999999999"): api.OK,
		signed("4 track a 1000000000 9"):        api.ErrSyntax,
		signed("4 track a 0 1000000000"):        api.ErrSyntax,
		signed("5 track a 0 09"):                api.ErrSyntax,
	} {
		log := shownLog(3) + line
		wanted, n := shown(3), len(shownLog(3))
		if e == api.OK {
			x, _ := eventIn(strings.Split(line, "#")[0])
			wanted, n = append(wanted, x), len(log)
		}
		l, got, bad := possession.Recover(log)
		want(t, fmt.Sprintf("Recover of %q", line), list(l, got, bad), list(wanted, n, e))
		checkRecovered(t, "the line", log)
		checkRecovered(t, "the line, and others", log+shownLog(5))
	}
}

// someLog returns a log, of which a part was changed.
func someLog(g *rand.Rand, l []api.Event) string {
	log := logOf(l)
	lines := slices.Collect(strings.Lines(log))
	at := g.IntN(len(lines))
	body := strings.Split(lines[at], "#")[0]
	parts := strings.Split(body, " ")
	switch g.IntN(9) {
	case 0:
		return log[:g.IntN(len(log)+1)]
	case 1:
		lines[at], lines[0] = lines[0], lines[at]
	case 2:
		lines = slices.Delete(lines, at, at+1)
	case 3:
		lines[at] += lines[at]
	case 4: // another word, or none, with the right checksum
		parts[g.IntN(len(parts))] = oneOf(g, words("", "0", "1", "01", "a", "a9", "9a", "undo", "track", "#", "1000", "1000000000", "a b"))
		lines[at] = signed(strings.Join(parts, " "))
	case 5:
		lines[at] = signed(strings.Join(slices.Delete(parts, 0, 1), oneOf(g, words(" ", "  ", "#"))))
	case 6, 7: // another byte
		k := g.IntN(len(log))
		return log[:k] + oneOf(g, strings.Split("0 1 9 a # \n x \xff", " ")) + log[k+1:]
	case 8:
		k := g.IntN(len(log))
		return log[:k] + oneOf(g, strings.Split("0 1 9 a # \n x \xff", " ")) + log[k:]
	}
	return strings.Join(lines, "")
}

// TestRecover checks logs that were changed against the model.
func TestRecover(t *testing.T) {
	g := source(301)
	seen := map[api.Errno]int{}
	for i, l := range journals(302, 300, 30) {
		if len(l) == 0 {
			continue
		}
		for range 12 {
			seen[checkRecovered(t, "log "+strconv.Itoa(i), someLog(g, l))]++
		}
	}
	for _, e := range []api.Errno{api.OK, api.ErrTorn, api.ErrSyntax, api.ErrCheck, api.ErrOrder} {
		if seen[e] < 50 {
			t.Errorf("too few logs have the error %v: %v", e, seen[e])
		}
	}
}

// TestRecoverOfAnything checks strings of few bytes against the model.
func TestRecoverOfAnything(t *testing.T) {
	g := source(303)
	for range 20000 {
		var s strings.Builder
		for range g.IntN(14) {
			s.WriteByte("0123 #\nundo"[g.IntN(11)])
		}
		checkRecovered(t, "anything", s.String())
		checkRecovered(t, "anything with its checksum", signed(s.String()))
	}
}
