package network

import (
	"slices"
	"strconv"
	"strings"

	"versine/api"
	"versine/base"
)

// The first words of lines.
const (
	lineWord      = "line"
	pieceWord     = "piece"
	switchWord    = "switch"
	structureWord = "structure"
)

// pair is two words, for false and for true.
type pair [2]string

var (
	directions = pair{"up", "down"}
	joints     = pair{"first", "last"}
)

// wordFor returns the word for what is so or not.
func (p pair) wordFor(is bool) string {
	if is {
		return p[1]
	}
	return p[0]
}

// Print returns the text of a network.
func Print(n Network) (string, api.Errno) {
	if e := CheckNetwork(n); e != api.OK {
		return "", e
	}
	var s strings.Builder
	for _, l := range n.Lines {
		s.WriteString(base.Line(lineWord, l.Name))
		for _, p := range l.Pieces {
			s.WriteString(base.Line(pieceWord, strconv.Itoa(p.Length), strconv.Itoa(p.Post), directions.wordFor(p.Back)))
		}
	}
	for _, x := range n.Switches {
		s.WriteString(base.Line(switchWord, x.Name, x.Line, strconv.Itoa(x.Metre), x.Other, joints.wordFor(x.Last)))
	}
	for _, x := range n.Structures {
		s.WriteString(base.Line(structureWord, x.Name, x.Kind, x.Line, strconv.Itoa(x.Span.From), strconv.Itoa(x.Span.To)))
	}
	return s.String(), api.OK
}

// fields takes the words of a line one after the other. They are wrong once one of
// them was missing, or not what was to be read.
type fields struct {
	next  func() (string, bool)
	wrong bool
}

func (f *fields) word() string {
	word, _ := f.next()
	f.wrong = f.wrong || word == ""
	return word
}

func (f *fields) number() int {
	n, isNumber := base.Number(f.word())
	f.wrong = f.wrong || !isNumber
	return n
}

// choice reads one of two words.
func (f *fields) choice(p pair) bool {
	word := f.word()
	f.wrong = f.wrong || !slices.Contains(p[:], word)
	return word == p[1]
}

// end reads what is behind the last word: nothing.
func (f *fields) end() {
	_, more := f.next()
	f.wrong = f.wrong || more
}

// lineForm is a kind of lines: the place of the kind in a text, and how the words
// behind the first one are read into a network.
type lineForm struct {
	word string
	kind int
	read func(n *Network, f *fields)
}

// lineForms returns the forms of lines.
func lineForms() [4]lineForm {
	return [4]lineForm{
		{lineWord, 0, readLine},
		{pieceWord, 0, readPiece},
		{switchWord, 1, readSwitch},
		{structureWord, 2, readStructure},
	}
}

func readLine(n *Network, f *fields) {
	name := f.word()
	n.Lines = append(n.Lines, Line{Name: name})
}

func readPiece(n *Network, f *fields) {
	length := f.number()
	post := f.number()
	back := f.choice(directions)
	if len(n.Lines) == 0 {
		f.wrong = true
		return
	}
	last := &n.Lines[len(n.Lines)-1]
	last.Pieces = append(last.Pieces, Piece{length, post, back})
}

func readSwitch(n *Network, f *fields) {
	name := f.word()
	line := f.word()
	metre := f.number()
	other := f.word()
	last := f.choice(joints)
	n.Switches = append(n.Switches, Switch{name, line, metre, other, last})
}

func readStructure(n *Network, f *fields) {
	name := f.word()
	kind := f.word()
	line := f.word()
	from := f.number()
	to := f.number()
	n.Structures = append(n.Structures, Structure{name, kind, line, api.Span{From: from, To: to}})
}

// readText returns what lines say, and the index of the first one with an error, or
// their number if there is none.
func readText(lines []string) (Network, int) {
	var n Network
	forms := lineForms()
	kind := 0
	for i, line := range lines {
		line, isEnded := strings.CutSuffix(line, "\n")
		f := fields{next: base.WordsOf(line).Next}
		first := f.word()
		k := slices.IndexFunc(forms[:], func(x lineForm) bool { return x.word == first })
		if !isEnded || k < 0 || forms[k].kind < kind {
			return Network{}, i
		}
		kind = forms[k].kind
		forms[k].read(&n, &f)
		if f.end(); f.wrong {
			return Network{}, i
		}
	}
	return n, len(lines)
}

// Parse returns the network with a text, or the index of the first line that is wrong.
func Parse(s string) (Network, int, api.Errno) {
	return base.ParseText(s, api.MaxText, readText, CheckNetwork)
}
