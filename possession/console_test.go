package possession_test

import (
	"math/rand/v2"
	"regexp"
	"slices"
	"strconv"
	"strings"
	"testing"

	"versine/api"
	"versine/possession"
)

// done is a line, its result and its error.
type done struct {
	line, result string
	e            api.Errno
}

// doAll checks the results of lines.
func doAll(t *testing.T, what string, s *possession.Session, l ...done) {
	t.Helper()
	for _, x := range l {
		events, log := s.Events(), s.Log()
		result, e := s.Do(x.line)
		want(t, what, list(x.line, result, e), list(x.line, x.result, x.e))
		if !strings.HasPrefix(x.result, "done ") {
			want(t, what+" changes nothing", list(x.line, s.Events(), s.Log()), list(x.line, events, log))
		}
	}
}

// session returns a session in which lines were done.
func session(t *testing.T, lines ...string) *possession.Session {
	t.Helper()
	s := possession.New()
	for i, line := range lines {
		result, e := s.Do(line)
		want(t, "Do "+line, list(result, e), list("done "+strconv.Itoa(i+1), api.OK))
	}
	return s
}

// TestShownSession checks the chapter's examples, line by line.
func TestShownSession(t *testing.T) {
	s := possession.New()
	want(t, "a new session", list(s.Events(), s.Log()), list([]api.Event(nil), ""))
	ok := func(line, result string) done { return done{line, result, api.OK} }
	doAll(t, "Do", s,
		ok("silent", "none"), ok("taken", "none"), ok("machines", "none"), done{"undo", "", api.ErrEmpty}, done{"speed up", "", api.ErrUnknown},
		ok("track up 0 160", "done 1"), ok("speed up", "160"), ok("trains up", "none"),
		ok("fault f up 1 100 120 40", "done 2"), ok("speed up", "160"), ok("silent", "f"), done{"enter t up 1 30", "", api.ErrOpen},
		ok("answer f 2", "done 3"), ok("speed up", "40"), ok("silent", "none"), done{"enter t up 2 50", "", api.ErrLimit}, done{"barrier p", "", api.ErrUnknown},
		ok("take p up 3 90 200", "done 4"), ok("taken", "p"), ok("barrier p", "none"), ok("persons p", "0"), done{"enter t up 3 30", "", api.ErrHeld}, done{"in ram p 3", "", api.ErrRule}, done{"take q up 4 199 300", "", api.ErrOverlap},
		ok("protect p 3", "done 5"), ok("barrier p", "protection"),
		ok("in tamper p 4", "done 6"), ok("machines", "tamper p"), ok("barrier p", "tamper protection"),
		ok("staff p 4 5", "done 7"), ok("persons p", "5"), ok("barrier p", "tamper staff protection"), done{"return p 5", "", api.ErrOpen}, done{"clear p 5", "", api.ErrOpen},
		ok("repair f p 5", "done 8"), ok("speed up", "160"), ok("out tamper 6", "done 9"), ok("machines", "none"), ok("off p 6 5", "done 10"), ok("persons p", "0"), ok("clear p 7", "done 11"), ok("barrier p", "none"), done{"return p 8", "", api.ErrNone},
		ok("open p 8", "done 12"), ok("barrier p", "measurement"), ok("close p 9 80", "done 13"), ok("barrier p", "none"), ok("return p 9", "done 14"),
		ok("taken", "none"), ok("barrier p", "none"), ok("persons p", "0"), ok("speed up", "80"), done{"undo", "", api.ErrRule}, done{"raise p 10 80", "", api.ErrRule},
		ok("raise p 10 160", "done 15"), ok("speed up", "160"),
	)
	want(t, "Events and Log", list(s.Events(), s.Log()), list(shown(15), shownLog(15)))
	doAll(t, "Do", s, ok("undo", "done 16"), ok("speed up", "80"), ok("enter t up 9 80", "done 17"), ok("trains up", "t"), done{"undo", "", api.ErrRule}, ok("leave t 9", "done 18"), ok("trains up", "none"), ok("undo", "done 19"), ok("trains up", "t"))
	want(t, "Events", list(s.Events()), list(shown(15, "undo", "enter t up 9 80", "leave t 9", "undo")))
}

// TestAnswers checks questions about more than one thing.
func TestAnswers(t *testing.T) {
	s := session(t, "track a 0 90", "track b 0 80", "fault z a 0 1 2 400", "fault y b 0 1 2 400", "answer y 0", "fault x a 0 1 2 400", "answer x 0", "answer z 0", "enter t b 0 70", "enter s a 0 60", "enter r b 0 50",
		"leave s 0", "take q a 0 10 20", "take p a 0 0 10", "protect p 0", "in m p 0", "protect q 0", "in l q 0", "in k p 0", "staff p 0 17", "open p 0", "fault w b 0 1 2 3", "fault v a 0 1 2 3")
	ok := func(line, result string) done { return done{line, result, api.OK} }
	doAll(t, "Do", s, ok("speed a", "90"), ok("speed b", "80"), ok("trains b", "t r"), ok("trains a", "none"), ok("barrier p", "m k staff measurement protection"), ok("barrier q", "l protection"),
		ok("persons p", "17"), ok("persons q", "0"), ok("silent", "w v"), ok("taken", "q p"), ok("machines", "m p l q k p"))
}

// TestErrorsOfLinesDone checks the errors of lines, and their order.
func TestErrorsOfLinesDone(t *testing.T) {
	s := session(t, shownLines(7)...)
	long := func(line string, n int) string { return line + strings.Repeat("a", n-len(line)) }
	for e, lines := range map[api.Errno][]string{
		api.ErrLong: words(strings.Repeat("x", 4097), strings.Repeat(" ", 4097), long("undo ", 4097), long("speed ", 5000), strings.Repeat("\x00", 10000)),
		api.ErrSyntax: words("", "undo ", "undo x", "undo 5", "undo undo", "leave t", "leave", "leave ", "leave  5", "leave t 5 ", "leave t 5 6", "leave t x", "leave 5 t", "leave t -5", "leave t 05", "leave t +5", "leave t 5.0", "leave t 1000000000", "leave t 5\n", "leave t 0x5",
			"track c 010 5", "track  c 5", "track c 5", "track c 5 5 5", "track c d 5 5", "track 5 5 c", "take q up 4 1 2 ", "take q up 4 1  2", "staff p 4", "staff p 4 5 6",
			"speed", "speed ", "speed  ", "speed up ", "speed up up", "speed  up", "trains", "trains up 5", "barrier", "barrier ", "barrier p p", "persons", "persons ", "persons p 4", "silent x", "silent ", "taken x", "taken ", "machines p", "machines ",
			long("undo ", 4096), long("leave t ", 4096)),
		api.ErrKind:    words(" ", " undo", "  ", "note", "note 5", "8 undo", "undos", "Undo", "UNDO", "undo\n", "undo\t", "silent\n", "Silent", "\nsilent", "speed\tup", "speeds up", "none", "done 8", "machine", "#", "\x00", "é", "9", strings.Repeat("x", 4096), strings.Repeat(" ", 4096)),
		api.ErrUnknown: words("speed p", "speed f", "speed Up", "speed up\n", "speed 9", "speed #", "trains down", "trains tamper", "barrier up", "barrier q", "barrier tamper", "persons up", "persons staff", "leave t 4", "answer g 4", long("speed ", 4096)),
		api.ErrName:    words("track 1 4 5", "track a-b 0 999", "leave 5 5", "leave t\n 5", "fault 1 nowhere 0 5 5 5", "fault f 1 0 5 5 5", "enter a# b# 0 0", "leave é 0", long("leave ", 4090)+" 4"),
		api.ErrState:   words("leave t 3", "track up 0 0", "repair f f 0"),
		api.ErrTwice:   words("track up 4 0", "protect p 4"),
	} {
		for _, line := range lines {
			doAll(t, "Do", s, done{line, "", e})
		}
	}
	doAll(t, "Do", s, done{"track " + strings.Repeat("a", 24) + " 999999999 400", "done 8", api.OK})
}

// TestManyLines checks that there are at most 1000 events, of which only questions are asked then.
func TestManyLines(t *testing.T) {
	s := session(t, append(words("track a 0 9", "take p a 0 1 2"), repeated(498, "protect p 0", "clear p 0")...)...)
	want(t, "the events", list(len(s.Events())), list(998))
	doAll(t, "Do", s, done{"protect p 0", "done 999", api.OK}, done{"protect p 0", "", api.ErrTwice}, done{"clear p 0", "done 1000", api.OK})
	l := s.Events()
	doAll(t, "Do", s, done{"protect p 0", "", api.ErrMany}, done{"undo", "", api.ErrMany}, done{"leave 5 5", "", api.ErrMany}, done{"leave t 0", "", api.ErrMany}, done{"leave t", "", api.ErrSyntax}, done{"undo 5", "", api.ErrSyntax}, done{"note", "", api.ErrKind}, done{"", "", api.ErrSyntax},
		done{"taken", "p", api.OK}, done{"speed a", "9", api.OK}, done{"speed b", "", api.ErrUnknown})
	want(t, "the events", list(s.Events(), s.Log()), list(l, logOf(l)))
	again, e := possession.Open(s.Log())
	want(t, "Open", list(again != nil, e), list(true, api.OK))
	doAll(t, "Do", again, done{"protect p 0", "", api.ErrMany}, done{"taken", "p", api.OK})
}

// TestNoSession checks what is done with none, and with one that New did not make.
func TestNoSession(t *testing.T) {
	var none *possession.Session
	for _, line := range words("", "undo", "silent", "note", strings.Repeat("x", 4097)) {
		result, e := none.Do(line)
		want(t, "Do of a nil session", list(line, result, e, none.Events(), none.Log()), list(line, "", api.ErrState, []api.Event(nil), ""))
	}
	s := &possession.Session{}
	doAll(t, "a zero session", s, done{"silent", "none", api.OK}, done{"track a 0 5", "done 1", api.OK}, done{"speed a", "5", api.OK})
}

// TestOpen checks which logs are opened.
func TestOpen(t *testing.T) {
	for n := range 16 {
		s, e := possession.Open(shownLog(n))
		want(t, "Open", list(n, s != nil, e), list(n, true, api.OK))
		want(t, "Events and Log", list(s.Events(), s.Log()), list(shown(n), shownLog(n)))
		for _, rest := range words("x", "16 undo", shownLog(15)[:5], "#", "0#0000000", strings.Repeat("y", 900000)) {
			s, e := possession.Open(shownLog(n) + rest)
			want(t, "Open of a torn log", list(n, s != nil, e), list(n, true, api.OK))
			want(t, "Events and Log of a torn log", list(s.Events(), s.Log()), list(shown(n), shownLog(n)))
		}
	}
	for i, x := range []struct {
		log string
		e   api.Errno
	}{
		{strings.Repeat("x", 1000001), api.ErrLong}, {"\n", api.ErrSyntax}, {"1#0000396\n", api.ErrSyntax}, {"1#0000397\n", api.ErrCheck}, {"1#0000397\nx", api.ErrCheck}, {signed("2 undo"), api.ErrOrder}, {shownLog(3) + signed("3 undo"), api.ErrOrder},
		{signed("1 undo"), api.ErrEmpty}, {shownLog(4) + signed("5 in m p 3"), api.ErrRule}, {shownLog(4) + signed("5 in m p 3") + signed("6 undo"), api.ErrRule}, {shownLog(4) + signed("5 in m p 3") + "x", api.ErrRule}, {shownLog(4) + signed("5 leave t 0") + "x", api.ErrState},
		{shownLog(4) + signed("5 in m p 3") + "\n", api.ErrSyntax}, {logOf(journal(repeated(1000, "undo")...)), api.ErrEmpty},
	} {
		s, e := possession.Open(x.log)
		want(t, "Open of no log of a session", list(i, s == nil, e), list(i, true, x.e))
	}
}

// lineForms returns the form of the lines of each kind, and of each question.
func lineForms() map[string]*regexp.Regexp {
	all := map[string]*regexp.Regexp{}
	for kind, s := range shapes() {
		all[kind] = regexp.MustCompile(`^` + kind + strings.Repeat(` [^ ]+`, len(s.names)) + strings.Repeat(` (0|[1-9][0-9]{0,8})`, s.values) + `\z`)
	}
	for question, n := range map[string]int{"speed": 1, "trains": 1, "barrier": 1, "persons": 1, "silent": 0, "taken": 0, "machines": 0} {
		all[question] = regexp.MustCompile(`^` + question + strings.Repeat(` [^ ]+`, n) + `\z`)
	}
	return all
}

var allForms = lineForms()

// answer returns the answer to a question, which has its form.
func answer(w *world, parts []string) (string, api.Errno) {
	thing := map[string]string{"speed": "track", "trains": "track", "barrier": "possession", "persons": "possession"}[parts[0]]
	if thing != "" && !w.has(thing, parts[1]) {
		return "", api.ErrUnknown
	}
	var l []string
	switch parts[0] {
	case "speed":
		l = words(strconv.Itoa(w.permitted(parts[1])))
	case "trains":
		l = w.of("train", parts[1])
	case "barrier":
		l = w.barrier(parts[1])
	case "persons":
		l = words(strconv.Itoa(w.persons[parts[1]]))
	case "silent":
		l = w.silent()
	case "taken":
		l = w.taken()
	case "machines":
		for _, m := range w.names["machine"] {
			l = append(l, m, w.place[m])
		}
	}
	if len(l) == 0 {
		return "none", api.OK
	}
	return strings.Join(l, " "), api.OK
}

// doneAfter is Do of a line after accepted events, as the chapter says it, with the event that is added.
func doneAfter(l []api.Event, line string) (string, []api.Event, api.Errno) {
	parts := strings.Split(line, " ")
	form := allForms[parts[0]]
	_, isKind := shapes()[parts[0]]
	switch {
	case len(line) > 4096:
		return "", nil, api.ErrLong
	case line == "":
		return "", nil, api.ErrSyntax
	case form == nil:
		return "", nil, api.ErrKind
	case !form.MatchString(line):
		return "", nil, api.ErrSyntax
	case !isKind:
		result, e := answer(worldOf(counting(l)), parts)
		return result, nil, e
	case len(l) == 1000:
		return "", nil, api.ErrMany
	}
	e := event(len(l)+1, parts[0])
	names := len(shapes()[parts[0]].names)
	e.Names = parts[1 : 1+names]
	for _, word := range parts[1+names:] {
		n, _ := strconv.Atoi(word)
		e.Values = append(e.Values, n)
	}
	isName := regexp.MustCompile(`^[A-Za-z][A-Za-z0-9_]{0,23}\z`)
	if !slices.ContainsFunc(e.Names, func(name string) bool { return !isName.MatchString(name) }) {
		if bad := refusal(l, e); bad != api.OK {
			return "", nil, bad
		}
		return "done " + strconv.Itoa(e.Number), []api.Event{e}, api.OK
	}
	return "", nil, api.ErrName
}

// someQuestion returns a question, which may have no answer.
func someQuestion(g *rand.Rand, w *world) string {
	switch g.IntN(7) {
	case 0, 1:
		return oneOf(g, words("speed", "trains")) + " " + someName(g, w, "track")
	case 2, 3:
		return oneOf(g, words("barrier", "persons")) + " " + someName(g, w, "possession")
	}
	return oneOf(g, words("silent", "taken", "machines"))
}

// someLine returns a line, of which a part may be wrong.
func someLine(g *rand.Rand, w *world) string {
	line := someQuestion(g, w)
	if g.IntN(4) > 0 {
		line = lineOf(someEvent(g, 5, w))
	}
	switch k := g.IntN(len(line)); g.IntN(16) {
	case 0:
		return line[:k]
	case 1:
		return line[:k] + oneOf(g, strings.Split("0 1 a # \n x \xff", " ")) + line[k+1:]
	case 2:
		return line[:k] + " " + line[k:]
	case 3:
		return line + oneOf(g, words(" ", " x", " 5", "\n"))
	}
	return line
}

// TestDo checks lines of sessions against the model, and that each session is opened again.
func TestDo(t *testing.T) {
	g := source(400)
	seen := map[api.Errno]int{}
	for i := range 60 {
		s := possession.New()
		var l []api.Event
		for range 160 {
			line := someLine(g, worldOf(counting(l)))
			wanted, more, bad := doneAfter(l, line)
			l = append(l, more...)
			result, e := s.Do(line)
			want(t, "Do", list(i, len(l), line, result, e), list(i, len(l), line, wanted, bad))
			seen[e]++
		}
		want(t, "Events and Log", list(i, s.Events(), s.Log()), list(i, l, logOf(l)))
		again, e := possession.Open(s.Log())
		want(t, "Open", list(i, e), list(i, api.OK))
		want(t, "Events and Log of it", list(i, again.Events(), again.Log()), list(i, l, logOf(l)))
		for range 20 {
			question := someQuestion(g, worldOf(counting(l)))
			result, e := s.Do(question)
			same, f := again.Do(question)
			want(t, "Do after Open", list(i, question, same, f), list(i, question, result, e))
		}
	}
	for _, e := range []api.Errno{api.OK, api.ErrSyntax, api.ErrKind, api.ErrName, api.ErrUnknown, api.ErrTwice, api.ErrState, api.ErrHeld, api.ErrOpen, api.ErrLimit, api.ErrRule, api.ErrOver} {
		if seen[e] < 20 {
			t.Errorf("too few lines have the error %v: %v", e, seen[e])
		}
	}
}
