package tackle

import (
	"slices"

	"lagan/api"
	"lagan/terms"
)

// kind is a kind of lines.
type kind int

const (
	tackleKind kind = iota
	partKind
	gearKind
	pieceKind
	testKind
)

const (
	tackleWord = "tackle"
	partWord   = "part"
	gearWord   = "gear"
	pieceWord  = "piece"
	testWord   = "test"
	heldWord   = "held"
	gaveWord   = "gave"
)

// next returns the kinds of lines that may stand behind one of this kind.
func (k kind) next() []kind {
	var may []kind
	switch k {
	case tackleKind, partKind:
		may = append(may, partKind)
		fallthrough
	case gearKind:
		may = append(may, gearKind)
		fallthrough
	case pieceKind:
		may = append(may, pieceKind)
		fallthrough
	case testKind:
		may = append(may, testKind)
	}
	return may
}

// textLine is a line of a text.
type textLine interface {
	kind() kind
	print() string
}

type tackleLine struct{ winch int }

type partLine struct{ part api.TacklePart }

type gearLine struct{ parts []int }

type pieceLine struct{ piece api.TacklePiece }

type testLine struct{ test api.TackleTest }

func (tackleLine) kind() kind { return tackleKind }

func (partLine) kind() kind { return partKind }

func (gearLine) kind() kind { return gearKind }

func (pieceLine) kind() kind { return pieceKind }

func (testLine) kind() kind { return testKind }

func (l tackleLine) print() string { return terms.PrintLine(tackleWord, terms.PrintNumber(l.winch)) }

func (l partLine) print() string {
	return terms.PrintLine(partWord, l.part.Name, terms.PrintNumber(l.part.Sheaves), terms.PrintReach(l.part.Bears))
}

func (l gearLine) print() string { return terms.PrintLine(gearWord, terms.PrintList(l.parts)) }

func (l pieceLine) print() string {
	return terms.PrintLine(pieceWord, l.piece.Name, terms.PrintReach(l.piece.Weight))
}

func (l testLine) print() string {
	held := terms.PrintEither(l.test.Held, heldWord, gaveWord)
	return terms.PrintLine(testWord, terms.PrintNumber(l.test.Gear), terms.PrintNumber(l.test.Load), held)
}

// lines returns the lines of a book.
func (c checked) lines() []textLine {
	all := []textLine{tackleLine{winch: c.Winch}}
	for _, p := range c.Parts {
		all = append(all, partLine{part: p})
	}
	for _, g := range c.Gears {
		all = append(all, gearLine{parts: g})
	}
	for _, p := range c.Pieces {
		all = append(all, pieceLine{piece: p})
	}
	for _, t := range c.Tests {
		all = append(all, testLine{test: t})
	}
	return all
}

func (c checked) print() string { return terms.PrintEach(c.lines(), textLine.print) }

// readBook reads a book, which may have a hitch; a line that is wrong is its error.
func readBook(text string) (api.TackleBook, error) {
	var b api.TackleBook
	next := []kind{tackleKind}
	err := terms.ReadLines(text, func(fields []string) bool {
		l, ok := readLine(fields[0], fields[1:])
		if !ok || !slices.Contains(next, l.kind()) {
			return false
		}
		next = l.kind().next()
		b = withLine(b, l)
		return true
	})
	return b, err
}

// withLine returns a book with what a line says.
func withLine(b api.TackleBook, l textLine) api.TackleBook {
	switch x := l.(type) {
	case tackleLine:
		b.Winch = x.winch
	case partLine:
		b.Parts = append(b.Parts, x.part)
	case gearLine:
		b.Gears = append(b.Gears, x.parts)
	case pieceLine:
		b.Pieces = append(b.Pieces, x.piece)
	case testLine:
		b.Tests = append(b.Tests, x.test)
	}
	return b
}

// readLine reads the word and the fields of a line, and tells whether it has its form.
func readLine(word string, fields []string) (textLine, bool) {
	switch word {
	case tackleWord:
		return readTackleLine(fields)
	case partWord:
		return readPartLine(fields)
	case gearWord:
		return readGearLine(fields)
	case pieceWord:
		return readPieceLine(fields)
	case testWord:
		return readTestLine(fields)
	}
	return nil, false
}

func readTackleLine(fields []string) (textLine, bool) {
	n, ok := terms.Numbers(fields, 1)
	if !ok {
		return nil, false
	}
	return tackleLine{winch: n[0]}, true
}

func readPartLine(fields []string) (textLine, bool) {
	if len(fields) != 3 {
		return nil, false
	}
	sheaves, sheavesOk := terms.Number(fields[1])
	bears, bearsOk := terms.Reach(fields[2])
	return partLine{part: api.TacklePart{Name: fields[0], Sheaves: sheaves, Bears: bears}}, sheavesOk && bearsOk
}

func readGearLine(fields []string) (textLine, bool) {
	if len(fields) != 1 {
		return nil, false
	}
	parts, ok := terms.List(fields[0])
	return gearLine{parts: parts}, ok
}

func readPieceLine(fields []string) (textLine, bool) {
	if len(fields) != 2 {
		return nil, false
	}
	weight, ok := terms.Reach(fields[1])
	return pieceLine{piece: api.TacklePiece{Name: fields[0], Weight: weight}}, ok
}

func readTestLine(fields []string) (textLine, bool) {
	if len(fields) != 3 {
		return nil, false
	}
	n, ok := terms.Numbers(fields[:2], 2)
	held := fields[2] == heldWord
	if !ok || !held && fields[2] != gaveWord {
		return nil, false
	}
	return testLine{test: api.TackleTest{Gear: n[0], Load: n[1], Held: held}}, true
}
