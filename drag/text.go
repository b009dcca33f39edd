package drag

import (
	"slices"

	"lagan/api"
	"lagan/terms"
)

// kind is a kind of lines.
type kind int

const (
	dragKind kind = iota
	groundKind
	rockKind
	lineKind
	leadKind
)

const (
	dragWord    = "drag"
	groundWord  = "ground"
	rockWord    = "rock"
	lineWord    = "line"
	leadWord    = "lead"
	touchedWord = "touched"
	freeWord    = "free"
)

// brought are the kinds of what a lead brings up, as words.
var brought = [...]string{"sand", "mud", "iron"}

// broughtOf returns the kind that a word stands for, and whether it stands for one.
func broughtOf(word string) (api.DragKind, bool) {
	for i, w := range brought {
		if w == word {
			return api.DragKind(i), true
		}
	}
	return 0, false
}

// next returns the kinds of lines that may stand behind one of this kind.
func (k kind) next() []kind {
	var may []kind
	switch k {
	case dragKind, groundKind:
		may = append(may, groundKind)
		fallthrough
	case rockKind:
		may = append(may, rockKind)
		fallthrough
	case lineKind:
		may = append(may, lineKind)
		fallthrough
	case leadKind:
		may = append(may, leadKind)
	}
	return may
}

// textLine is a line of a text.
type textLine interface {
	kind() kind
	print() string
}

type dragLine struct{ rows, lanes, slack int }

type groundLine struct{ letters string }

type rockLine struct{ at api.DragSquare }

type lineLine struct{ line api.DragLine }

type leadLine struct{ lead api.DragLead }

func (dragLine) kind() kind { return dragKind }

func (groundLine) kind() kind { return groundKind }

func (rockLine) kind() kind { return rockKind }

func (lineLine) kind() kind { return lineKind }

func (leadLine) kind() kind { return leadKind }

func (l dragLine) print() string {
	return terms.PrintLine(dragWord, terms.PrintNumber(l.rows), terms.PrintNumber(l.lanes), terms.PrintNumber(l.slack))
}

func (l groundLine) print() string { return terms.PrintLine(groundWord, l.letters) }

func (l rockLine) print() string {
	return terms.PrintLine(rockWord, terms.PrintNumber(l.at.Row), terms.PrintNumber(l.at.Lane))
}

func (l lineLine) print() string {
	touched := terms.PrintEither(l.line.Touched, touchedWord, freeWord)
	return terms.PrintLine(lineWord, terms.PrintReach(l.line.Rows), terms.PrintReach(l.line.Lanes), terms.PrintReach(l.line.Tide), touched)
}

func (l leadLine) print() string {
	at := l.lead.At
	return terms.PrintLine(leadWord, terms.PrintNumber(at.Row), terms.PrintNumber(at.Lane), brought[l.lead.Brought])
}

// lines returns the lines of a book.
func (c checked) lines() []textLine {
	all := []textLine{dragLine{rows: c.Rows, lanes: c.Lanes, slack: c.Slack}}
	for _, letters := range c.Ground {
		all = append(all, groundLine{letters: letters})
	}
	for _, s := range c.Rocks {
		all = append(all, rockLine{at: s})
	}
	for _, l := range c.Lines {
		all = append(all, lineLine{line: l})
	}
	for _, l := range c.Leads {
		all = append(all, leadLine{lead: l})
	}
	return all
}

func (c checked) print() string { return terms.PrintEach(c.lines(), textLine.print) }

// readBook reads a book, which may have a hitch; a line that is wrong is its error.
func readBook(text string) (api.DragBook, error) {
	var b api.DragBook
	next := []kind{dragKind}
	err := terms.ReadLines(text, func(fields []string) bool {
		l, ok := readLine(fields)
		if !ok || !slices.Contains(next, l.kind()) {
			return false
		}
		next = l.kind().next()
		b = withLine(b, l)
		return true
	})
	return b, err
}

// withLine returns a book with what a line says.
func withLine(b api.DragBook, l textLine) api.DragBook {
	switch x := l.(type) {
	case dragLine:
		b.Rows, b.Lanes, b.Slack = x.rows, x.lanes, x.slack
	case groundLine:
		b.Ground = append(b.Ground, x.letters)
	case rockLine:
		b.Rocks = append(b.Rocks, x.at)
	case lineLine:
		b.Lines = append(b.Lines, x.line)
	case leadLine:
		b.Leads = append(b.Leads, x.lead)
	}
	return b
}

// readLine reads the word and the fields of a line, and tells whether it has its form.
func readLine(fields []string) (textLine, bool) {
	switch fields[0] {
	case dragWord:
		return readDragLine(fields[1:])
	case groundWord:
		return readGroundLine(fields[1:])
	case rockWord:
		return readRockLine(fields[1:])
	case lineWord:
		return readLineLine(fields[1:])
	case leadWord:
		return readLeadLine(fields[1:])
	}
	return nil, false
}

func readDragLine(fields []string) (textLine, bool) {
	n, ok := terms.Numbers(fields, 3)
	if !ok {
		return nil, false
	}
	return dragLine{rows: n[0], lanes: n[1], slack: n[2]}, true
}

func readGroundLine(fields []string) (textLine, bool) {
	if len(fields) != 1 {
		return nil, false
	}
	return groundLine{letters: fields[0]}, true
}

func readRockLine(fields []string) (textLine, bool) {
	at, ok := readSquare(fields)
	if !ok {
		return nil, false
	}
	return rockLine{at: at}, true
}

func readLineLine(fields []string) (textLine, bool) {
	if len(fields) != 4 {
		return nil, false
	}
	rows, rowsOk := terms.Reach(fields[0])
	lanes, lanesOk := terms.Reach(fields[1])
	tide, tideOk := terms.Reach(fields[2])
	touched := fields[3] == touchedWord
	if !rowsOk || !lanesOk || !tideOk || !touched && fields[3] != freeWord {
		return nil, false
	}
	return lineLine{line: api.DragLine{Rows: rows, Lanes: lanes, Tide: tide, Touched: touched}}, true
}

func readLeadLine(fields []string) (textLine, bool) {
	if len(fields) != 3 {
		return nil, false
	}
	at, ok := readSquare(fields[:2])
	what, known := broughtOf(fields[2])
	if !ok || !known {
		return nil, false
	}
	return leadLine{lead: api.DragLead{At: at, Brought: what}}, true
}

// readSquare reads a square, and tells whether the fields have its form.
func readSquare(fields []string) (api.DragSquare, bool) {
	n, ok := terms.Numbers(fields, 2)
	if !ok {
		return api.DragSquare{}, false
	}
	return api.DragSquare{Row: n[0], Lane: n[1]}, true
}
