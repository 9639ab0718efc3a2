package possession_test

import (
	"slices"
	"strings"
	"testing"

	"versine/api"
	"versine/possession"
)

// attempt is a line after others, and the error with which it is not accepted.
type attempt struct {
	line string
	e    api.Errno
}

// attempts checks lines after a journal, which is accepted.
func attempts(t *testing.T, what string, lines []string, l ...attempt) {
	t.Helper()
	before := journal(lines...)
	accepted(t, before)
	for _, x := range l {
		e := event(len(before)+1, x.line)
		want(t, what, list(x.line, possession.Accepts(before, e)), list(x.line, x.e))
		want(t, what+" in the model", list(x.line, refusal(before, e)), list(x.line, x.e))
		r, n, bad := possession.Replay(append(slices.Clone(before), e))
		if x.e == api.OK {
			want(t, what, list(x.line, r, n, bad), list(x.line, worldOf(counting(append(slices.Clone(before), e))).register(), 0, api.OK))
			continue
		}
		want(t, what, list(x.line, r, n, bad), list(x.line, possession.Register{}, len(before)+1, x.e))
	}
}

// TestOrder checks the numbers of events, which come before all other errors.
func TestOrder(t *testing.T) {
	for n := range 16 {
		for number := 1; number <= 20; number++ {
			wanted := api.ErrOrder
			if number == n+1 {
				wanted = api.ErrState // or, of the first event, none at all
				if n < 2 {
					wanted = api.ErrUnknown
				}
			}
			e := event(number, "answer x 0")
			want(t, "the number", list(n, number, possession.Accepts(shown(n), e)), list(n, number, wanted))
		}
	}
	want(t, "an undo", list(possession.Accepts(nil, event(2, "undo"))), list(api.ErrOrder))
	want(t, "a second undo", list(possession.Accepts(shown(2, "undo"), event(2, "undo"))), list(api.ErrOrder)) // undone events keep their numbers
	want(t, "a second undo", list(possession.Accepts(shown(2, "undo"), event(4, "undo"))), list(api.OK))
}

// TestUndo checks what may be undone.
func TestUndo(t *testing.T) {
	attempts(t, "nothing", nil, attempt{"undo", api.ErrEmpty})
	attempts(t, "nothing any more", words("track a 0 9", "undo"), attempt{"undo", api.ErrEmpty})
	attempts(t, "nothing any more", words("track a 0 9", "track b 0 9", "undo", "undo"), attempt{"undo", api.ErrEmpty})
	for n := 1; n <= 15; n++ {
		e := api.OK
		if n == 14 {
			e = api.ErrRule
		}
		attempts(t, "an event of the examples", shownLines(n), attempt{"undo", e})
	}
	attempts(t, "an entry", words("track a 0 9", "enter t a 0 9"), attempt{"undo", api.ErrRule})
	attempts(t, "a train that left", words("track a 0 9", "enter t a 0 9", "leave t 0"), attempt{"undo", api.OK})
	attempts(t, "an entry behind an undo", words("track a 0 9", "enter t a 0 9", "leave t 0", "undo"), attempt{"undo", api.ErrRule})
	attempts(t, "a return behind an undo", append(shownLines(15), "undo"), attempt{"undo", api.ErrRule})
	attempts(t, "the event before one that was undone", append(shownLines(3), "undo"), attempt{"undo", api.OK})
}

// TestTicks checks that ticks are not before the register's, which an undo turns back.
func TestTicks(t *testing.T) {
	lines := words("track a 5 9", "track b 7 9")
	attempts(t, "a tick", lines, attempt{"track c 6 9", api.ErrState}, attempt{"track c 0 9", api.ErrState}, attempt{"track c 7 9", api.OK}, attempt{"track c 999999999 9", api.OK})
	attempts(t, "a tick behind an undo", append(lines, "undo"), attempt{"track c 4 9", api.ErrState}, attempt{"track c 5 9", api.OK}, attempt{"track b 6 9", api.OK})
	for _, kind := range kinds() {
		if kind == "undo" {
			continue
		}
		e := plain(kind) // of which no name is there
		e.Values[0] = 6
		attempts(t, "a tick of each kind", lines, attempt{lineOf(e), api.ErrState})
	}
}

// namesakes returns a journal in which there is one of each thing, with the name of that thing, and a second possession and machine.
func namesakes() []string {
	return words("track track 0 9", "track other 0 9", "fault fault track 0 5 6 9", "enter train other 0 9", "take possession track 0 1 9", "take second track 0 10 20", "protect possession 0", "in machine possession 0")
}

// TestNames checks which names have to be there, or to be new.
func TestNames(t *testing.T) {
	for _, kind := range kinds() {
		for i, thing := range shapes()[kind].names {
			name, isNew := strings.CutPrefix(thing, "+")
			for _, other := range words("track", "fault", "train", "possession", "machine", "nothing") {
				e := plain(kind)
				for k, thing := range shapes()[kind].names {
					e.Names[k], _ = strings.CutPrefix(thing, "+")
					if thing[0] == '+' {
						e.Names[k] = "new"
					}
				}
				e.Names[i] = other
				got := possession.Accepts(journal(namesakes()...), event(9, lineOf(e)))
				switch is := other == name; {
				case is && isNew:
					want(t, "a name that is there", list(kind, other, got), list(kind, other, api.ErrTwice))
				case !is && !isNew:
					want(t, "a name that is not there", list(kind, other, got), list(kind, other, api.ErrUnknown))
				case isNew && got == api.ErrTwice, !isNew && got == api.ErrUnknown:
					t.Errorf("%v with the name %v: got %v", kind, other, got)
				}
			}
		}
	}
	attempts(t, "names", namesakes(),
		attempt{"fault fault nowhere 0 9 9 401", api.ErrUnknown}, attempt{"fault fault track 0 9 9 401", api.ErrTwice},
		attempt{"repair none possession 0", api.ErrUnknown}, attempt{"repair fault none 0", api.ErrUnknown}, attempt{"repair possession fault 0", api.ErrUnknown},
		attempt{"enter train nowhere 0 0", api.ErrUnknown}, attempt{"enter train track 0 0", api.ErrTwice}, attempt{"enter train other 0 0", api.ErrTwice},
		attempt{"take possession nowhere 0 9 9", api.ErrUnknown}, attempt{"take possession other 0 9 9", api.ErrTwice},
		attempt{"in machine nowhere 0", api.ErrUnknown}, attempt{"in machine second 0", api.ErrTwice}, attempt{"in machine possession 0", api.ErrTwice},
		attempt{"in second possession 0", api.OK}, attempt{"track machine 0 9", api.OK}, attempt{"take track track 0 30 40", api.OK},
	)
	attempts(t, "names of what is gone", append(shownLines(14), "enter t up 9 5", "leave t 9"),
		attempt{"track up 9 5", api.ErrTwice}, attempt{"fault f up 9 1 2 3", api.ErrTwice}, attempt{"take p up 9 300 400", api.ErrTwice},
		attempt{"enter t up 9 5", api.OK}, attempt{"leave t 9", api.ErrUnknown}, attempt{"out tamper 9", api.ErrUnknown},
	)
	attempts(t, "names of what was undone", words("track a 0 9", "undo"), attempt{"track a 0 8", api.OK}, attempt{"fault f a 0 1 2 3", api.ErrUnknown})
	attempts(t, "a machine that comes again", append(shownLines(9), "take q up 6 300 400", "protect q 6"), attempt{"in tamper p 6", api.OK}, attempt{"in tamper q 6", api.OK})
}

func TestTracksAccepted(t *testing.T) {
	attempts(t, "track", shownLines(2), attempt{"track a 1 1", api.OK}, attempt{"track a 1 400", api.OK}, attempt{"track a 1 0", api.ErrRange}, attempt{"track a 1 401", api.ErrRange}, attempt{"track a 1 999999999", api.ErrRange}, attempt{"track a 0 0", api.ErrState}, attempt{"track up 1 0", api.ErrTwice})
	attempts(t, "the eighth track", series(7, "track t$ 0 9"), attempt{"track a 0 9", api.OK})
	attempts(t, "a ninth track", series(8, "track t$ 0 9"), attempt{"track a 0 9", api.ErrMany}, attempt{"track a 0 0", api.ErrRange}, attempt{"track t7 0 9", api.ErrTwice})
	attempts(t, "a track after an undo", append(series(8, "track t$ 0 9"), "undo"), attempt{"track a 0 9", api.OK})
}

func TestFaultsAccepted(t *testing.T) {
	attempts(t, "fault", shownLines(2),
		attempt{"fault g up 1 0 1 0", api.OK}, attempt{"fault g up 1 99999999 100000000 400", api.OK}, attempt{"fault g up 1 0 100000000 1", api.OK}, attempt{"fault g up 1 100 120 40", api.OK},
		attempt{"fault g up 1 1 1 401", api.ErrSpan}, attempt{"fault g up 1 2 1 401", api.ErrSpan}, attempt{"fault g up 1 0 100000001 401", api.ErrSpan}, attempt{"fault g up 1 0 0 1", api.ErrSpan},
		attempt{"fault g up 1 100000000 100000001 1", api.ErrSpan}, attempt{"fault g up 1 100000000 100000000 1", api.ErrSpan}, attempt{"fault g up 1 999999999 0 1", api.ErrSpan},
		attempt{"fault g up 1 0 1 401", api.ErrRange}, attempt{"fault g up 0 1 1 401", api.ErrState},
	)
	full := together(words("track up 0 9"), series(64, "fault f$ up 0 1 2 3"))
	attempts(t, "the 64th fault", full[:64], attempt{"fault g up 0 1 2 3", api.OK})
	attempts(t, "a 65th fault", full, attempt{"fault g up 0 1 2 3", api.ErrMany}, attempt{"fault g up 0 1 2 401", api.ErrRange}, attempt{"fault g up 0 1 1 3", api.ErrSpan})
	gone := words("take p up 0 1 9", "protect p 0", "staff p 0 1", "repair f0 p 0")
	attempts(t, "a fault where another one is gone", together(full, gone), attempt{"fault g up 0 1 2 3", api.ErrMany})
	attempts(t, "a fault while a train is on the track", words("track up 0 9", "enter t up 0 9"), attempt{"fault g up 0 1 2 3", api.OK})
	attempts(t, "a fault within a possession", shownLines(4), attempt{"fault g up 3 100 110 3", api.OK})
}

func TestAnswersAccepted(t *testing.T) {
	attempts(t, "answer", shownLines(2), attempt{"answer f 1", api.OK}, attempt{"answer f 0", api.ErrState}, attempt{"answer g 1", api.ErrUnknown})
	attempts(t, "a second answer", shownLines(3), attempt{"answer f 2", api.ErrTwice})
	attempts(t, "an answer that is late, and the second one", shownLines(8), attempt{"answer f 5", api.ErrOver})
	silent := words("track up 0 9", "fault f up 0 1 2 3", "take p up 0 1 9", "protect p 0", "staff p 0 1", "repair f p 0")
	attempts(t, "an answer that is late", silent, attempt{"answer f 0", api.ErrOver})
	attempts(t, "an answer behind an undo", append(shownLines(3), "undo"), attempt{"answer f 1", api.OK})
}

func TestRepairsAccepted(t *testing.T) {
	empty := words("track a 0 90", "track b 0 90", "fault f a 0 10 20 30", "fault g b 0 10 20 30", "take p a 0 10 20", "protect p 0")
	attempts(t, "repair by nobody", empty, attempt{"repair f p 0", api.ErrEmpty}, attempt{"repair g p 0", api.ErrRule})
	for _, inside := range words("in m p 0", "staff p 0 1") {
		attempts(t, "repair", append(empty, inside), attempt{"repair f p 0", api.OK}, attempt{"repair g p 0", api.ErrRule})
		attempts(t, "repair again", append(empty, inside, "repair f p 0"), attempt{"repair f p 0", api.ErrOver})
		attempts(t, "repair in another possession", append(empty, inside, "take q b 0 10 20"), attempt{"repair g q 0", api.ErrEmpty}, attempt{"repair g p 0", api.ErrRule}, attempt{"repair f q 0", api.ErrRule})
	}
	attempts(t, "repair where all are gone", append(empty, "in m p 0", "staff p 0 2", "off p 0 2", "out m 0"), attempt{"repair f p 0", api.ErrEmpty})
	attempts(t, "repair of a fault that is answered", append(empty, "answer f 0", "in m p 0"), attempt{"repair f p 0", api.OK})
	for places, e := range map[string]api.Errno{"10 20": api.OK, "11 19": api.OK, "9 20": api.ErrRule, "10 21": api.ErrRule, "9 21": api.ErrRule, "20 21": api.ErrRule, "9 10": api.ErrRule, "0 90": api.ErrRule, "19 20": api.OK, "12 13": api.OK} {
		attempts(t, "repair of the places "+places, append(empty, "staff p 0 1", "fault h a 0 "+places+" 5"), attempt{"repair h p 0", e})
	}
	over := append(empty, "open p 0", "close p 0 50", "clear p 0", "return p 0")
	attempts(t, "repair behind a return", over, attempt{"repair f p 0", api.ErrRule})
	attempts(t, "repair again behind a return", words("track a 0 90", "fault f a 0 10 20 30", "take p a 0 10 20", "protect p 0", "staff p 0 1", "repair f p 0", "off p 0 1", "open p 0", "close p 0 50", "clear p 0", "return p 0"), attempt{"repair f p 0", api.ErrOver})
}

func TestTrainsAccepted(t *testing.T) {
	attempts(t, "enter", words("track a 0 90"), attempt{"enter t a 0 1", api.OK}, attempt{"enter t a 0 90", api.OK}, attempt{"enter t a 0 0", api.ErrLimit}, attempt{"enter t a 0 91", api.ErrLimit}, attempt{"enter t a 0 999999999", api.ErrLimit})
	attempts(t, "a second train", words("track a 0 90", "enter s a 0 80"), attempt{"enter t a 0 90", api.OK}, attempt{"enter s a 0 90", api.ErrTwice})
	attempts(t, "enter a possession", words("track a 0 90", "track b 0 80", "take p a 0 1 2"), attempt{"enter t a 0 1", api.ErrHeld}, attempt{"enter t a 0 0", api.ErrHeld}, attempt{"enter t b 0 80", api.OK})
	attempts(t, "enter ahead of a restriction", words("track a 0 90", "track b 0 80", "fault f a 0 1 2 50"), attempt{"enter t a 0 50", api.ErrOpen}, attempt{"enter t a 0 0", api.ErrOpen}, attempt{"enter t b 0 80", api.OK})
	attempts(t, "enter a possession ahead of a restriction", words("track a 0 90", "fault f a 0 1 2 50", "take p a 0 1 2"), attempt{"enter t a 0 50", api.ErrHeld})
	attempts(t, "enter ahead of one of two restrictions", words("track a 0 90", "fault f a 0 1 2 50", "fault g a 0 1 2 40", "answer f 0"), attempt{"enter t a 0 10", api.ErrOpen})
	attempts(t, "enter with a restriction", words("track a 0 90", "fault f a 0 1 2 50", "fault g a 0 1 2 40", "answer f 0", "answer g 0"), attempt{"enter t a 0 40", api.OK}, attempt{"enter t a 0 41", api.ErrLimit})
	attempts(t, "enter a closed track", words("track a 0 90", "fault f a 0 1 2 0", "answer f 0"), attempt{"enter t a 0 0", api.ErrLimit}, attempt{"enter t a 0 1", api.ErrLimit})
	attempts(t, "enter a track with a high restriction", words("track a 0 90", "fault f a 0 1 2 400", "answer f 0"), attempt{"enter t a 0 90", api.OK}, attempt{"enter t a 0 91", api.ErrLimit})
	full := together(words("track a 0 90", "track b 0 90"), series(16, "enter t$ a 0 5"))
	attempts(t, "the sixteenth train", full[:17], attempt{"enter t a 0 5", api.OK}, attempt{"enter t b 0 5", api.OK})
	attempts(t, "a seventeenth train", full, attempt{"enter t a 0 5", api.ErrMany}, attempt{"enter t b 0 5", api.ErrMany}, attempt{"enter t b 0 0", api.ErrLimit}, attempt{"enter t7 b 0 5", api.ErrTwice})
	attempts(t, "a train where another one left", append(full, "leave t7 0"), attempt{"enter t b 0 5", api.OK}, attempt{"leave t7 0", api.ErrUnknown}, attempt{"leave t8 0", api.OK})
	attempts(t, "sixteen trains, and a possession", together(full, words("take p b 0 1 2")), attempt{"enter t b 0 5", api.ErrHeld})
	attempts(t, "sixteen trains, and a fault", together(full, words("fault f b 0 1 2 3")), attempt{"enter t b 0 5", api.ErrOpen})
}

func TestTakesAccepted(t *testing.T) {
	attempts(t, "take", words("track a 0 90", "track b 0 90"), attempt{"take p a 0 0 1", api.OK}, attempt{"take p a 0 99999999 100000000", api.OK}, attempt{"take p a 0 0 100000000", api.OK},
		attempt{"take p a 0 1 1", api.ErrSpan}, attempt{"take p a 0 2 1", api.ErrSpan}, attempt{"take p a 0 0 100000001", api.ErrSpan}, attempt{"take p a 0 100000000 100000001", api.ErrSpan})
	attempts(t, "take with a train", words("track a 0 90", "track b 0 90", "enter t a 0 9"), attempt{"take p a 0 1 1", api.ErrSpan}, attempt{"take p a 0 1 2", api.ErrHeld}, attempt{"take p b 0 1 2", api.OK})
	attempts(t, "take when the train left", words("track a 0 90", "enter t a 0 9", "leave t 0"), attempt{"take p a 0 1 2", api.OK})
	attempts(t, "take beside another one", words("track a 0 90", "track b 0 90", "take p a 0 10 20", "take q a 0 30 40"),
		attempt{"take r a 0 20 30", api.OK}, attempt{"take r a 0 0 10", api.OK}, attempt{"take r a 0 40 41", api.OK}, attempt{"take r b 0 10 20", api.OK},
		attempt{"take r a 0 10 20", api.ErrOverlap}, attempt{"take r a 0 19 30", api.ErrOverlap}, attempt{"take r a 0 20 31", api.ErrOverlap}, attempt{"take r a 0 0 11", api.ErrOverlap}, attempt{"take r a 0 0 90", api.ErrOverlap}, attempt{"take r a 0 14 15", api.ErrOverlap}, attempt{"take r a 0 39 41", api.ErrOverlap}, attempt{"take r a 0 15 15", api.ErrSpan})
	attempts(t, "take what was given back", shownLines(14), attempt{"take q up 9 90 200", api.OK}, attempt{"take q up 9 100 101", api.OK})
	attempts(t, "take with a fault", shownLines(2), attempt{"take p up 1 110 111", api.OK})
	full := together(words("track a 0 90", "track b 0 90"), series(16, "take p$ a 0 $0 $5"))
	attempts(t, "the sixteenth possession", full[:17], attempt{"take p b 0 1 2", api.OK})
	attempts(t, "a seventeenth possession", full, attempt{"take p b 0 1 2", api.ErrMany}, attempt{"take p a 0 10 20", api.ErrOverlap}, attempt{"take p3 b 0 1 2", api.ErrTwice}, attempt{"take p b 0 2 2", api.ErrSpan})
	attempts(t, "a possession where another one was given back", append(full, "open p3 0", "close p3 0 1", "return p3 0"), attempt{"take p b 0 1 2", api.ErrMany})
	attempts(t, "sixteen possessions, and a train", append(full, "enter t b 0 1"), attempt{"take p b 0 1 2", api.ErrHeld})
}

// TestPossessionsGivenBack checks that nothing goes on in a possession that was given back.
func TestPossessionsGivenBack(t *testing.T) {
	for _, line := range words("protect p 9", "clear p 9", "in m p 9", "staff p 9 1", "staff p 9 0", "off p 9 1", "off p 9 0", "open p 9", "close p 9 1", "close p 9 0", "return p 9") {
		attempts(t, "a possession given back", shownLines(14), attempt{line, api.ErrOver})
		attempts(t, "a possession given back, and raised", shownLines(15), attempt{strings.Replace(line, " 9", " 10", 1), api.ErrOver})
	}
}

func TestProtectionsAccepted(t *testing.T) {
	attempts(t, "a possession", shownLines(4), attempt{"protect p 3", api.OK}, attempt{"clear p 3", api.ErrState})
	attempts(t, "a protected possession", shownLines(5), attempt{"protect p 3", api.ErrTwice}, attempt{"clear p 3", api.OK})
	attempts(t, "a possession cleared again", append(shownLines(5), "clear p 3"), attempt{"protect p 3", api.OK}, attempt{"clear p 3", api.ErrState})
	attempts(t, "a possession with a machine", shownLines(6), attempt{"clear p 4", api.ErrOpen}, attempt{"protect p 4", api.ErrTwice})
	attempts(t, "a possession with persons", append(shownLines(5), "staff p 3 1"), attempt{"clear p 3", api.ErrOpen})
	attempts(t, "a possession with an open measurement", append(shownLines(5), "open p 3"), attempt{"clear p 3", api.OK})
	attempts(t, "a possession beside one with a machine", append(shownLines(6), "take q up 4 300 400", "protect q 4"), attempt{"clear q 4", api.OK}, attempt{"clear p 4", api.ErrOpen})
}

func TestMachinesAccepted(t *testing.T) {
	attempts(t, "a possession", shownLines(4), attempt{"in m p 3", api.ErrRule}, attempt{"out m 3", api.ErrUnknown})
	attempts(t, "a protected possession", shownLines(6), attempt{"in m p 4", api.OK}, attempt{"in tamper p 4", api.ErrTwice}, attempt{"out tamper 4", api.OK}, attempt{"out tamper 3", api.ErrState})
	full := together(words("track a 0 90", "take p a 0 1 2", "take q a 0 3 4", "take r a 0 5 6", "protect p 0", "protect q 0"), series(8, "in m$ p 0"), series(8, "in n$ q 0"))
	attempts(t, "the sixteenth machine", full[:len(full)-1], attempt{"in m p 0", api.OK}, attempt{"in m q 0", api.OK})
	attempts(t, "a seventeenth machine", full, attempt{"in m p 0", api.ErrMany}, attempt{"in m q 0", api.ErrMany}, attempt{"in m r 0", api.ErrRule}, attempt{"in m3 r 0", api.ErrTwice})
	attempts(t, "a machine where another one is out", append(full, "out n3 0"), attempt{"in m p 0", api.OK}, attempt{"in n3 p 0", api.OK}, attempt{"out n3 0", api.ErrUnknown})
}

func TestPersonsAccepted(t *testing.T) {
	attempts(t, "a possession", shownLines(4), attempt{"staff p 3 1", api.ErrRule}, attempt{"staff p 3 0", api.ErrRange}, attempt{"staff p 3 101", api.ErrRange}, attempt{"off p 3 1", api.ErrShort}, attempt{"off p 3 0", api.ErrRange}, attempt{"off p 3 101", api.ErrRange})
	attempts(t, "a protected possession", shownLines(5), attempt{"staff p 3 1", api.OK}, attempt{"staff p 3 100", api.OK}, attempt{"staff p 3 0", api.ErrRange}, attempt{"staff p 3 101", api.ErrRange}, attempt{"staff p 3 999999999", api.ErrRange}, attempt{"off p 3 1", api.ErrShort})
	attempts(t, "five persons", shownLines(7), attempt{"staff p 4 95", api.OK}, attempt{"staff p 4 96", api.ErrLarge}, attempt{"staff p 4 101", api.ErrRange}, attempt{"off p 4 5", api.OK}, attempt{"off p 4 6", api.ErrShort}, attempt{"off p 4 1", api.OK}, attempt{"off p 4 0", api.ErrRange}, attempt{"off p 4 101", api.ErrRange})
	attempts(t, "a hundred persons", append(shownLines(7), "staff p 4 95"), attempt{"staff p 4 1", api.ErrLarge}, attempt{"off p 4 100", api.OK}, attempt{"off p 4 101", api.ErrRange})
	attempts(t, "a hundred persons beside", append(shownLines(7), "staff p 4 95", "take q up 4 300 400", "protect q 4"), attempt{"staff q 4 100", api.OK}, attempt{"off q 4 1", api.ErrShort})
}

func TestMeasurementsAccepted(t *testing.T) {
	attempts(t, "a possession", shownLines(4), attempt{"open p 3", api.OK}, attempt{"close p 3 1", api.ErrState}, attempt{"close p 3 0", api.ErrRange}, attempt{"close p 3 401", api.ErrRange})
	attempts(t, "an open measurement", shownLines(12), attempt{"open p 8", api.ErrTwice}, attempt{"close p 8 1", api.OK}, attempt{"close p 8 400", api.OK}, attempt{"close p 8 0", api.ErrRange}, attempt{"close p 8 401", api.ErrRange})
	attempts(t, "a closed measurement", shownLines(13), attempt{"open p 9", api.OK}, attempt{"close p 9 1", api.ErrState})
	measured := append(shownLines(5), repeated(7, "open p 3", "close p 3 50")...)
	attempts(t, "the eighth measurement", measured, attempt{"open p 3", api.OK})
	attempts(t, "the eighth measurement, open", append(measured, "open p 3"), attempt{"open p 3", api.ErrTwice}, attempt{"close p 3 50", api.OK})
	attempts(t, "a ninth measurement", append(measured, "open p 3", "close p 3 50"), attempt{"open p 3", api.ErrMany}, attempt{"close p 3 50", api.ErrState})
	attempts(t, "measurements elsewhere", append(measured, "open p 3", "close p 3 50", "take q up 3 300 400"), attempt{"open q 3", api.OK})
}

func TestReturnsAccepted(t *testing.T) {
	attempts(t, "a possession", shownLines(4), attempt{"return p 3", api.ErrNone})
	for _, lines := range [][]string{words("protect p 3"), words("open p 3"), words("protect p 3", "open p 3"), words("protect p 3", "in m p 3"), words("protect p 3", "staff p 3 1")} {
		attempts(t, "a possession that is held", append(shownLines(4), lines...), attempt{"return p 3", api.ErrOpen})
		measured := together(shownLines(4), words("open p 3", "close p 3 50"), lines)
		attempts(t, "a measured possession that is held", measured, attempt{"return p 3", api.ErrOpen})
	}
	attempts(t, "a measured possession", shownLines(13), attempt{"return p 9", api.OK}, attempt{"return p 8", api.ErrState}, attempt{"return q 9", api.ErrUnknown})
	attempts(t, "a possession beside one that is held", append(shownLines(7), "take q up 4 300 400", "open q 4", "close q 4 50"), attempt{"return q 4", api.OK}, attempt{"return p 4", api.ErrOpen})
	attempts(t, "a measured possession with a silent fault", words("track up 0 9", "fault f up 0 1 2 3", "take p up 0 1 2", "open p 0", "close p 0 400"), attempt{"return p 0", api.OK})
}

func TestRaisesAccepted(t *testing.T) {
	attempts(t, "an open possession", shownLines(13), attempt{"raise p 9 160", api.ErrState}, attempt{"raise p 9 401", api.ErrState}, attempt{"raise p 9 0", api.ErrState})
	attempts(t, "a possession given back", shownLines(14), attempt{"raise p 9 81", api.OK}, attempt{"raise p 9 400", api.OK}, attempt{"raise p 9 401", api.ErrRange}, attempt{"raise p 9 80", api.ErrRule}, attempt{"raise p 9 79", api.ErrRule}, attempt{"raise p 9 0", api.ErrRule})
	attempts(t, "a possession raised", shownLines(15), attempt{"raise p 10 160", api.ErrRule}, attempt{"raise p 10 161", api.OK}, attempt{"raise p 10 100", api.ErrRule}, attempt{"raise p 9 200", api.ErrState})
	attempts(t, "a raise with a train", append(shownLines(14), "enter t up 9 80"), attempt{"raise p 9 100", api.OK})
}

// TestManyEvents checks the numbers of events that there may be.
func TestManyEvents(t *testing.T) {
	full := journal(append(words("track a 0 9", "take p a 0 1 2"), repeated(499, "protect p 0", "clear p 0")...)...)
	accepted(t, full)
	last := event(1000, "clear p 0")
	want(t, "the last event", list(len(full), possession.Accepts(full[:999], last), possession.Accepts(full[:999], event(1000, "protect p 0"))), list(1000, api.OK, api.ErrTwice))
	for i, x := range []struct {
		e   api.Event
		bad api.Errno
	}{
		{event(1000, "protect p 0"), api.ErrMany}, {event(1, "undo"), api.ErrMany}, {event(1000, "out x 0"), api.ErrMany}, {event(1001, "protect p 0"), api.ErrRange}, {event(1000, "note"), api.ErrKind},
		{event(1000, "protect"), api.ErrShape}, {event(1000, "protect p 1000000000"), api.ErrRange},
	} {
		want(t, "an event more", list(i, possession.Accepts(full, x.e)), list(i, x.bad))
	}
	r, n, e := possession.Replay(append(slices.Clone(full), event(1001, "protect p 0")))
	checkError(t, "Replay of too many events", list(r, n, e), api.ErrMany)
	r, n, e = possession.Replay(make([]api.Event, 1001))
	checkError(t, "Replay of too many events", list(r, n, e), api.ErrMany)
	want(t, "Accepts after too many events", list(possession.Accepts(make([]api.Event, 1001), event(1, "note"))), list(api.ErrMany))
	r, n, e = possession.Replay(make([]api.Event, 1000))
	want(t, "Replay of bad events", list(r, n, e), list(possession.Register{}, 1, api.ErrRange))
}

// TestFirstErrorOfReplay checks that the first event with an error decides, by itself or after the others.
func TestFirstErrorOfReplay(t *testing.T) {
	for i := range 15 {
		for k := i; k < 15; k++ {
			l := shown(15)
			l[k].Text = "x"
			l[i].Kind = "note"
			r, n, e := possession.Replay(l)
			want(t, "Replay", list(i, k, r, n, e), list(i, k, possession.Register{}, i+1, api.ErrKind))
			want(t, "Accepts", list(i, k, possession.Accepts(l, event(16, "note"))), list(i, k, api.ErrKind))
			l = shown(15)
			l[k].Text = "x"
			l[i].Number += 2
			r, n, e = possession.Replay(l)
			wanted := api.ErrOrder
			if i == k {
				wanted = api.ErrForm
			}
			want(t, "Replay", list(i, k, r, n, e), list(i, k, possession.Register{}, i+1, wanted))
		}
	}
}
