package finds

import (
	"lagan/api"
	"lagan/terms"
)

// kind is a kind of lines; they stand in the order of their kinds, and one of the first kind is the first line alone.
type kind int

const (
	findsKind kind = iota
	lineKind
	findKind
	noteKind
)

const (
	findsWord = "finds"
	lineWord  = "line"
	findWord  = "find"
	noteWord  = "note"
	sameWord  = "same"
	otherWord = "other"
)

// words returns those with which lines begin, in the order of their kinds.
func words() []string {
	return []string{findsKind: findsWord, lineKind: lineWord, findKind: findWord, noteKind: noteWord}
}

// textLine is a line of a text.
type textLine interface {
	kind() kind
	print() string
}

type findsLine struct{ strays int }

type lineLine struct{ line api.FindsLine }

type findLine struct{ mark string }

type noteLine struct{ note api.FindsNote }

func (findsLine) kind() kind { return findsKind }

func (lineLine) kind() kind { return lineKind }

func (findLine) kind() kind { return findKind }

func (noteLine) kind() kind { return noteKind }

func (l findsLine) print() string { return terms.PrintLine(findsWord, terms.PrintNumber(l.strays)) }

func (l lineLine) print() string {
	return terms.PrintLine(lineWord, terms.PrintNumber(l.line.Ship), l.line.Mark, terms.PrintNumber(l.line.Count))
}

func (l findLine) print() string { return terms.PrintLine(findWord, l.mark) }

func (l noteLine) print() string {
	same := terms.PrintEither(l.note.Same, sameWord, otherWord)
	return terms.PrintLine(noteWord, terms.PrintNumber(l.note.A), terms.PrintNumber(l.note.B), same)
}

// lines returns the lines of a book.
func (c checked) lines() []textLine {
	all := []textLine{findsLine{strays: c.Strays}}
	for _, l := range c.Lines {
		all = append(all, lineLine{line: l})
	}
	for _, mark := range c.Finds {
		all = append(all, findLine{mark: mark})
	}
	for _, n := range c.Notes {
		all = append(all, noteLine{note: n})
	}
	return all
}

func (c checked) print() string { return terms.PrintEach(c.lines(), textLine.print) }

// readBook reads a book, which may have a hitch; a line that is wrong is its error.
func readBook(text string) (api.FindsBook, error) {
	var b api.FindsBook
	err := terms.ReadInOrder(text, func(fields []string) (int, bool) {
		l, ok := readLine(fields[0], fields[1:])
		if !ok {
			return 0, false
		}
		b = withLine(b, l)
		return int(l.kind()), true
	})
	return b, err
}

// withLine returns a book with what a line says.
func withLine(b api.FindsBook, l textLine) api.FindsBook {
	switch x := l.(type) {
	case findsLine:
		b.Strays = x.strays
	case lineLine:
		b.Lines = append(b.Lines, x.line)
	case findLine:
		b.Finds = append(b.Finds, x.mark)
	case noteLine:
		b.Notes = append(b.Notes, x.note)
	}
	return b
}

// readLine reads the word and the fields of a line, and tells whether it has its form.
func readLine(word string, fields []string) (textLine, bool) {
	if k, ok := terms.OneOf(word, words()...); ok {
		switch kind(k) {
		case findsKind:
			return readFindsLine(fields)
		case lineKind:
			return readLineLine(fields)
		case findKind:
			return readFindLine(fields)
		case noteKind:
			return readNoteLine(fields)
		}
	}
	return nil, false
}

func readFindsLine(fields []string) (textLine, bool) {
	n, ok := terms.Numbers(fields, 1)
	if !ok {
		return nil, false
	}
	return findsLine{strays: n[0]}, true
}

func readLineLine(fields []string) (textLine, bool) {
	if len(fields) != 3 {
		return nil, false
	}
	ship, shipOk := terms.Number(fields[0])
	count, countOk := terms.Number(fields[2])
	return lineLine{line: api.FindsLine{Ship: ship, Mark: fields[1], Count: count}}, shipOk && countOk
}

func readFindLine(fields []string) (textLine, bool) {
	if len(fields) != 1 {
		return nil, false
	}
	return findLine{mark: fields[0]}, true
}

func readNoteLine(fields []string) (textLine, bool) {
	if len(fields) != 3 {
		return nil, false
	}
	n, ok := terms.Numbers(fields[:2], 2)
	same, either := terms.OneOf(fields[2], sameWord, otherWord)
	if !ok || !either {
		return nil, false
	}
	return noteLine{note: api.FindsNote{A: n[0], B: n[1], Same: same == 0}}, true
}
