package possession_test

import (
	"testing"

	"versine/api"
	"versine/possession"
)

// TestShownTracks checks what is asked of a track after each event of the chapter's examples.
func TestShownTracks(t *testing.T) {
	taken := spansOf(90, 200)
	for _, x := range []struct {
		n, permitted, next int
		e                  api.Errno
		silent             []string
		blocked            []api.Span
	}{
		{1, 160, 160, api.OK, nil, nil}, {2, 160, 0, api.ErrOpen, words("f"), nil}, {3, 40, 40, api.OK, nil, nil},
		{4, 40, 0, api.ErrHeld, nil, taken}, {5, 40, 0, api.ErrHeld, nil, taken}, {6, 40, 0, api.ErrHeld, nil, taken}, {7, 40, 0, api.ErrHeld, nil, taken},
		{8, 160, 0, api.ErrHeld, nil, taken}, {9, 160, 0, api.ErrHeld, nil, taken}, {10, 160, 0, api.ErrHeld, nil, taken}, {11, 160, 0, api.ErrHeld, nil, taken},
		{12, 160, 0, api.ErrHeld, nil, taken}, {13, 160, 0, api.ErrHeld, nil, taken}, {14, 80, 80, api.OK, nil, nil}, {15, 160, 160, api.OK, nil, nil},
	} {
		permitted, e := possession.Permitted(shown(x.n), "up")
		next, f := possession.Next(shown(x.n), "up")
		silent, g := possession.Silent(shown(x.n))
		blocked, h := possession.Blocked(shown(x.n), "up")
		want(t, "the track", list(x.n, permitted, e, next, f, silent, g, blocked, h), list(x.n, x.permitted, api.OK, x.next, x.e, x.silent, api.OK, x.blocked, api.OK))
	}
}

// TestPermitted checks of which speeds the permitted one is the least.
func TestPermitted(t *testing.T) {
	working := words("track a 0 90", "track b 0 70", "fault f a 0 10 20 50", "fault g a 0 10 20 30", "fault h b 0 10 20 5", "answer h 0", "take p a 0 0 50", "protect p 0", "staff p 0 1")
	over := words("off p 0 1", "clear p 0", "open p 0", "close p 0 20", "return p 0")
	for i, x := range []struct {
		more   []string
		speeds []int // of a and b
	}{
		{nil, ints(90, 5)},
		{words("answer f 0"), ints(50, 5)},
		{words("answer f 0", "answer g 0"), ints(30, 5)},
		{words("answer f 0", "answer g 0", "undo"), ints(50, 5)},
		{words("answer f 0", "answer g 0", "repair g p 0"), ints(50, 5)},
		{words("answer f 0", "answer g 0", "repair g p 0", "repair f p 0"), ints(90, 5)},
		{words("repair g p 0", "answer f 0"), ints(50, 5)},
		{words("open p 0", "close p 0 20"), ints(90, 5)},
		{over, ints(20, 5)},
		{append(over, "answer f 0"), ints(20, 5)},
		{append(over, "raise p 0 40"), ints(40, 5)},
		{append(over, "raise p 0 40", "answer g 0"), ints(30, 5)},
		{append(over, "raise p 0 400"), ints(90, 5)},
		{append(over, "raise p 0 90"), ints(90, 5)},
		{append(over, "raise p 0 89"), ints(89, 5)},
		{append(over, "raise p 0 400", "undo"), ints(20, 5)},
		{append(over, "take q a 0 0 50", "open q 0", "close q 0 10"), ints(20, 5)},
		{append(over, "take q a 0 0 50", "open q 0", "close q 0 10", "return q 0"), ints(10, 5)},
		{append(over, "take q a 0 0 50", "open q 0", "close q 0 60", "return q 0"), ints(20, 5)},
		{append(over, "take q a 0 0 50", "open q 0", "close q 0 10", "open q 0", "close q 0 60", "return q 0", "raise p 0 400"), ints(60, 5)},
		{words("fault z a 0 1 2 400", "answer z 0"), ints(90, 5)},
		{words("fault z a 0 1 2 0", "answer z 0"), ints(0, 5)},
		{words("fault z b 0 1 2 0", "answer z 0"), ints(90, 0)},
	} {
		l := journal(append(working, x.more...)...)
		accepted(t, l)
		for k, track := range words("a", "b") {
			speed, e := possession.Permitted(l, track)
			want(t, "Permitted", list(i, track, speed, e), list(i, track, x.speeds[k], api.OK))
		}
	}
}

// TestNext checks in which order Next has its errors.
func TestNext(t *testing.T) {
	for i, x := range []struct {
		more  []string
		speed int
		e     api.Errno
	}{
		{nil, 90, api.OK},
		{words("fault f a 0 1 2 0"), 0, api.ErrOpen},
		{words("fault f a 0 1 2 0", "answer f 0"), 0, api.ErrNone},
		{words("fault f a 0 1 2 1", "answer f 0"), 1, api.OK},
		{words("fault f a 0 1 2 0", "answer f 0", "fault g a 0 1 2 0"), 0, api.ErrOpen},
		{words("fault f a 0 1 2 0", "answer f 0", "take p a 0 1 2"), 0, api.ErrHeld},
		{words("fault f a 0 1 2 0", "take p a 0 1 2"), 0, api.ErrHeld},
		{words("take p a 0 1 2", "undo"), 90, api.OK},
		{words("fault f b 0 1 2 0"), 90, api.OK},
		{words("fault f b 0 1 2 0", "answer f 0"), 90, api.OK},
		{words("take p b 0 1 2"), 90, api.OK},
		{words("take p b 0 1 2", "take q a 0 1 2", "open q 0", "close q 0 7", "return q 0"), 7, api.OK},
		{series(16, "enter t$ a 0 9"), 90, api.OK}, // no error is named for the trains that there are
		{words("fault f a 0 1 2 0", "take p a 0 1 2", "protect p 0", "staff p 0 1", "repair f p 0"), 0, api.ErrHeld},
		{words("fault f a 0 1 2 0", "take p a 0 1 2", "protect p 0", "staff p 0 1", "repair f p 0", "off p 0 1", "clear p 0", "open p 0", "close p 0 7", "return p 0"), 7, api.OK},
	} {
		l := journal(append(words("track a 0 90", "track b 0 80"), x.more...)...)
		accepted(t, l)
		speed, e := possession.Next(l, "a")
		want(t, "Next", list(i, speed, e), list(i, x.speed, x.e))
		if e == api.OK && len(x.more) < 16 { // a train may enter with it, and not with a greater one
			last := event(len(l)+1, "enter t a 0 1")
			last.Values[1] = speed
			want(t, "the next train", list(i, possession.Accepts(l, last)), list(i, api.OK))
			last.Values[1]++
			want(t, "the next train, too fast", list(i, possession.Accepts(l, last)), list(i, api.ErrLimit))
		}
	}
}

func TestSilent(t *testing.T) {
	lines := words("track a 0 90", "track b 0 80", "fault z a 0 1 2 5", "fault y b 0 1 2 5", "fault x a 0 1 2 5", "fault w b 0 1 2 5")
	for i, x := range []struct{ more, silent []string }{
		{nil, words("z", "y", "x", "w")},
		{words("answer y 0"), words("z", "x", "w")},
		{words("answer y 0", "answer w 0", "answer z 0"), words("x")},
		{words("answer y 0", "undo"), words("z", "y", "x", "w")},
		{words("take p a 0 0 9", "protect p 0", "staff p 0 1", "repair x p 0"), words("z", "y", "w")},
		{words("answer y 0", "answer w 0", "answer z 0", "answer x 0"), nil},
		{words("undo", "undo", "undo"), words("z")},
	} {
		l := journal(append(lines, x.more...)...)
		accepted(t, l)
		silent, e := possession.Silent(l)
		want(t, "Silent", list(i, silent, e), list(i, x.silent, api.OK))
	}
	silent, e := possession.Silent(nil)
	want(t, "Silent of nothing", list(silent, e), list([]string(nil), api.OK))
}

func TestBlocked(t *testing.T) {
	lines := words("track a 0 90", "track b 0 80", "take p a 0 50 60", "take q b 0 1 2", "take r a 0 10 20", "take s a 0 20 50", "take t a 0 0 10")
	for i, x := range []struct {
		more []string
		a, b []api.Span
	}{
		{nil, spansOf(0, 10, 10, 20, 20, 50, 50, 60), spansOf(1, 2)},
		{words("undo"), spansOf(10, 20, 20, 50, 50, 60), spansOf(1, 2)},
		{words("open r 0", "close r 0 9", "return r 0"), spansOf(0, 10, 20, 50, 50, 60), spansOf(1, 2)},
		{words("open r 0", "close r 0 9", "return r 0", "take u a 0 15 20"), spansOf(0, 10, 15, 20, 20, 50, 50, 60), spansOf(1, 2)},
		{words("open q 0", "close q 0 9", "return q 0"), spansOf(0, 10, 10, 20, 20, 50, 50, 60), nil},
	} {
		l := journal(append(lines, x.more...)...)
		accepted(t, l)
		a, e := possession.Blocked(l, "a")
		b, f := possession.Blocked(l, "b")
		want(t, "Blocked", list(i, a, e, b, f), list(i, x.a, api.OK, x.b, api.OK))
	}
}

// TestShownBarriers checks what is asked of a possession after each event of the chapter's examples.
func TestShownBarriers(t *testing.T) {
	for _, x := range []struct {
		n       int
		barrier []string
		ready   bool
		inside  [2]int
		e       api.Errno
	}{
		{4, nil, false, [2]int{}, api.OK}, {5, words("protection"), false, [2]int{}, api.OK}, {6, words("tamper", "protection"), false, [2]int{1, 0}, api.OK},
		{7, words("tamper", "staff", "protection"), false, [2]int{1, 5}, api.OK}, {8, words("tamper", "staff", "protection"), false, [2]int{1, 5}, api.OK},
		{9, words("staff", "protection"), false, [2]int{0, 5}, api.OK}, {10, words("protection"), false, [2]int{}, api.OK}, {11, nil, false, [2]int{}, api.OK},
		{12, words("measurement"), false, [2]int{}, api.OK}, {13, nil, true, [2]int{}, api.OK}, {14, nil, false, [2]int{}, api.ErrOver}, {15, nil, false, [2]int{}, api.ErrOver},
	} {
		barrier, e := possession.Barrier(shown(x.n), "p")
		ready, f := possession.Ready(shown(x.n), "p")
		inside, g := possession.Inside(shown(x.n), "p")
		want(t, "the possession", list(x.n, barrier, e, ready, f, inside, g), list(x.n, x.barrier, x.e, x.ready, x.e, x.inside, api.OK))
	}
}

// TestBarriers checks two possessions, with machines that come, go and come again.
func TestBarriers(t *testing.T) {
	lines := words("track a 0 90", "take p a 0 1 2", "take q a 0 3 4", "protect p 0", "protect q 0", "in z p 0", "in y q 0", "in x p 0", "in staff p 0", "staff q 0 3")
	for i, x := range []struct{ more, p, q []string }{
		{nil, words("z", "x", "staff", "protection"), words("y", "staff", "protection")},
		{words("out z 0"), words("x", "staff", "protection"), words("y", "staff", "protection")},
		{words("out z 0", "in z p 0"), words("x", "staff", "z", "protection"), words("y", "staff", "protection")},
		{words("out z 0", "in z q 0"), words("x", "staff", "protection"), words("y", "z", "staff", "protection")},
		{words("out z 0", "undo"), words("z", "x", "staff", "protection"), words("y", "staff", "protection")},
		{words("staff p 0 1", "open p 0"), words("z", "x", "staff", "staff", "measurement", "protection"), words("y", "staff", "protection")},
		{words("open q 0", "out y 0", "off q 0 3", "clear q 0"), words("z", "x", "staff", "protection"), words("measurement")},
		{words("open q 0", "close q 0 5"), words("z", "x", "staff", "protection"), words("y", "staff", "protection")},
	} {
		l := journal(append(lines, x.more...)...)
		accepted(t, l)
		p, e := possession.Barrier(l, "p")
		q, f := possession.Barrier(l, "q")
		want(t, "Barrier", list(i, p, e, q, f), list(i, x.p, api.OK, x.q, api.OK))
		ready, e := possession.Ready(l, "q")
		want(t, "Ready", list(i, ready, e), list(i, false, api.OK))
	}
	n, e := possession.Inside(journal(lines...), "p")
	m, f := possession.Inside(journal(lines...), "q")
	want(t, "Inside", list(n, e, m, f), list([2]int{3, 0}, api.OK, [2]int{1, 3}, api.OK))
	measured := shownLines(13)
	for i, x := range []struct {
		more []string
		is   bool
	}{{nil, true}, {words("open p 9"), false}, {words("open p 9", "close p 9 5"), true}, {words("protect p 9"), false}, {words("protect p 9", "clear p 9"), true}, {words("undo"), false}} {
		is, e := possession.Ready(journal(append(measured, x.more...)...), "p")
		want(t, "Ready", list(i, is, e), list(i, x.is, api.OK))
	}
}

// TestStory checks stories of tracks with all kinds of events, some of which were undone.
func TestStory(t *testing.T) {
	lines := words(
		"track a 0 90", "track b 0 80", "track c 0 70", "fault f a 1 1 9 30", "fault g b 1 1 9 30", "answer g 2", "enter t b 3 20", "enter s c 3 20", "answer f 3",
		"take p a 4 0 10", "take q a 4 10 20", "leave t 5", "take r b 5 0 10", "protect p 6", "protect r 6", "in m p 6", "in n r 6", "staff p 6 2", "repair f p 7",
		"out m 7", "undo", "out n 7", "undo", "out n 8", "out m 8", "off p 8 1", "undo", "off p 8 2", "clear p 8", "in m r 8", "open p 9", "close p 9 40", "return p 9",
		"leave s 9", "raise p 9 50", "enter u c 9 70", "out m 9",
	)
	l := journal(lines...)
	accepted(t, l)
	stories := map[string][]string{
		"a": words("track a 0 90", "fault f a 1 1 9 30", "answer f 3", "take p a 4 0 10", "take q a 4 10 20", "protect p 6", "in m p 6", "staff p 6 2", "repair f p 7", "out m 8", "off p 8 2", "clear p 8", "open p 9", "close p 9 40", "return p 9", "raise p 9 50"),
		"b": words("track b 0 80", "fault g b 1 1 9 30", "answer g 2", "enter t b 3 20", "leave t 5", "take r b 5 0 10", "protect r 6", "in n r 6", "out n 8", "in m r 8", "out m 9"),
		"c": words("track c 0 70", "enter s c 3 20", "leave s 9", "enter u c 9 70"),
	}
	for track, wanted := range stories {
		told, e := possession.Story(l, track)
		want(t, "Story", list(track, told, e), list(track, journal(wanted...), api.OK))
	}
	for n := range 16 {
		if n > 0 {
			told, e := possession.Story(shown(n), "up")
			want(t, "Story of the examples", list(n, told, e), list(n, shown(n), api.OK))
		}
	}
	told, e := possession.Story(journal("track a 0 90", "undo", "track b 0 80", "track a 0 70", "fault f a 0 1 2 3", "undo"), "a")
	want(t, "Story of a track that was undone", list(told, e), list(journal("track a 0 70"), api.OK))
	told, e = possession.Story(journal("track a 0 90", "undo"), "a")
	checkError(t, "Story of a track that is no more", list(told, e), api.ErrUnknown)
}
