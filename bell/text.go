package bell

import (
	"slices"

	"lagan/api"
	"lagan/terms"
)

// kind is a kind of lines.
type kind int

const (
	bellKind kind = iota
	airKind
	manKind
	markKind
)

const (
	bellWord = "bell"
	airWord  = "air"
	manWord  = "man"
	markWord = "mark"
)

// next returns the kinds of lines that may stand behind one of this kind.
func (k kind) next() []kind {
	switch k {
	case bellKind:
		return []kind{airKind}
	case airKind, manKind:
		return []kind{manKind, markKind}
	default:
		return []kind{markKind}
	}
}

// textLine is a line of a text.
type textLine interface {
	kind() kind
	print() string
}

type bellLine struct{ room, depth, least, minutes int }

type airLine struct {
	lamps, cask, casks, pump int
	leak, pumped             api.Reach
	sent                     []int
}

type manLine struct{ man api.BellMan }

type markLine struct{ mark api.BellMark }

func (bellLine) kind() kind { return bellKind }

func (airLine) kind() kind { return airKind }

func (manLine) kind() kind { return manKind }

func (markLine) kind() kind { return markKind }

func (l bellLine) print() string {
	return terms.PrintLine(bellWord, terms.PrintNumber(l.room), terms.PrintNumber(l.depth), terms.PrintNumber(l.least), terms.PrintNumber(l.minutes))
}

func (l airLine) print() string {
	return terms.PrintLine(airWord, terms.PrintNumber(l.lamps), terms.PrintReach(l.leak), terms.PrintNumber(l.cask), terms.PrintNumber(l.casks), terms.PrintNumber(l.pump), terms.PrintReach(l.pumped), terms.PrintList(l.sent))
}

func (l manLine) print() string {
	return terms.PrintLine(manWord, l.man.Name, terms.PrintReach(l.man.Breath))
}

func (l markLine) print() string {
	return terms.PrintLine(markWord, terms.PrintNumber(l.mark.Minute), terms.PrintReach(l.mark.Dry))
}

// lines returns the lines of a book.
func (c checked) lines() []textLine {
	all := []textLine{
		bellLine{room: c.Room, depth: c.Depth, least: c.Least, minutes: c.Minutes},
		airLine{lamps: c.Lamps, leak: c.Leak, cask: c.Cask, casks: c.Casks, pump: c.Pump, pumped: c.Pumped, sent: c.Sent},
	}
	for _, m := range c.Men {
		all = append(all, manLine{man: m})
	}
	for _, m := range c.Marks {
		all = append(all, markLine{mark: m})
	}
	return all
}

func (c checked) print() string { return terms.PrintEach(c.lines(), textLine.print) }

// readBook reads a book, which may have a hitch; it panics with a terms.WrongLine where a line is wrong, or the second one is not there.
func readBook(text string) api.BellBook {
	var b api.BellBook
	next := []kind{bellKind}
	terms.EachLine(text, func(line terms.Line) {
		l := readLine(line)
		line.Want(slices.Contains(next, l.kind()))
		next = l.kind().next()
		b = withLine(b, l)
	})
	if slices.Contains(next, airKind) {
		panic(terms.WrongLine{Number: 0})
	}
	return b
}

// withLine returns a book with what a line says.
func withLine(b api.BellBook, l textLine) api.BellBook {
	switch x := l.(type) {
	case bellLine:
		b.Room, b.Depth, b.Least, b.Minutes = x.room, x.depth, x.least, x.minutes
	case airLine:
		b.Lamps, b.Cask, b.Casks, b.Pump = x.lamps, x.cask, x.casks, x.pump
		b.Leak, b.Pumped, b.Sent = x.leak, x.pumped, x.sent
	case manLine:
		b.Men = append(b.Men, x.man)
	case markLine:
		b.Marks = append(b.Marks, x.mark)
	}
	return b
}

// readLine reads a line; it panics if the line does not have its form.
func readLine(line terms.Line) textLine {
	switch line.Word() {
	case bellWord:
		return readBellLine(line)
	case airWord:
		return readAirLine(line)
	case manWord:
		f := line.Fields(2)
		return manLine{man: api.BellMan{Name: f[0], Breath: line.Reach(f[1])}}
	case markWord:
		f := line.Fields(2)
		return markLine{mark: api.BellMark{Minute: line.Number(f[0]), Dry: line.Reach(f[1])}}
	}
	panic(line.Wrong())
}

func readBellLine(line terms.Line) bellLine {
	f := line.Fields(4)
	return bellLine{room: line.Number(f[0]), depth: line.Number(f[1]), least: line.Number(f[2]), minutes: line.Number(f[3])}
}

func readAirLine(line terms.Line) airLine {
	f := line.Fields(7)
	return airLine{
		lamps: line.Number(f[0]), leak: line.Reach(f[1]), cask: line.Number(f[2]), casks: line.Number(f[3]),
		pump: line.Number(f[4]), pumped: line.Reach(f[5]), sent: line.List(f[6]),
	}
}
