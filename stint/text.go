package stint

import (
	"lagan/api"
	"lagan/terms"
)

// kind is a kind of lines; they stand in the order of their kinds, and one of the first kind is the first line alone.
type kind int

const (
	stintKind kind = iota
	rowKind
	placeKind
	manKind
	diveKind
	soundingKind
)

const (
	stintWord    = "stint"
	rowWord      = "row"
	placeWord    = "place"
	manWord      = "man"
	diveWord     = "dive"
	soundingWord = "sounding"
	yesWord      = "yes"
	noWord       = "no"
)

// textLine is a line of a text.
type textLine interface {
	kind() kind
	print() string
}

type stintLine struct{ rest int }

type rowLine struct{ row api.StintRow }

type placeLine struct{ depth api.Reach }

type manLine struct{ man api.StintMan }

type diveLine struct{ dive api.StintDive }

type soundingLine struct{ sounding api.StintSounding }

func (stintLine) kind() kind { return stintKind }

func (rowLine) kind() kind { return rowKind }

func (placeLine) kind() kind { return placeKind }

func (manLine) kind() kind { return manKind }

func (diveLine) kind() kind { return diveKind }

func (soundingLine) kind() kind { return soundingKind }

func (l stintLine) print() string { return terms.PrintLine(stintWord, terms.PrintNumber(l.rest)) }

func (l rowLine) print() string {
	return terms.PrintLine(rowWord, terms.PrintNumber(l.row.Depth), terms.PrintNumber(l.row.Stay))
}

func (l placeLine) print() string { return terms.PrintLine(placeWord, terms.PrintReach(l.depth)) }

func (l manLine) print() string {
	return terms.PrintLine(manWord, l.man.Name, terms.PrintNumber(l.man.Deepest))
}

func (l diveLine) print() string {
	d := l.dive
	return terms.PrintLine(diveWord, terms.PrintNumber(d.Place), terms.PrintNumber(d.Begin), terms.PrintNumber(d.Ticks), terms.PrintNumber(d.Men))
}

func (l soundingLine) print() string {
	s := l.sounding
	return terms.PrintLine(soundingWord, terms.PrintNumber(s.Place), terms.PrintNumber(s.Line), terms.PrintEither(s.Bottom, yesWord, noWord))
}

// lines returns the lines of a book.
func (c checked) lines() []textLine {
	all := []textLine{stintLine{rest: c.Rest}}
	for _, r := range c.Rows {
		all = append(all, rowLine{row: r})
	}
	for _, r := range c.Places {
		all = append(all, placeLine{depth: r})
	}
	for _, m := range c.Men {
		all = append(all, manLine{man: m})
	}
	for _, d := range c.Dives {
		all = append(all, diveLine{dive: d})
	}
	for _, s := range c.Soundings {
		all = append(all, soundingLine{sounding: s})
	}
	return all
}

func (c checked) print() string { return terms.PrintEach(c.lines(), textLine.print) }

// readBook reads a book, which may have a hitch; it panics with a terms.WrongLine where a line is wrong.
func readBook(text string) api.StintBook {
	var b api.StintBook
	terms.EachInOrder(text, func(line terms.Line) int {
		l := readLine(line)
		b = withLine(b, l)
		return int(l.kind())
	})
	return b
}

// withLine returns a book with what a line says.
func withLine(b api.StintBook, l textLine) api.StintBook {
	switch x := l.(type) {
	case stintLine:
		b.Rest = x.rest
	case rowLine:
		b.Rows = append(b.Rows, x.row)
	case placeLine:
		b.Places = append(b.Places, x.depth)
	case manLine:
		b.Men = append(b.Men, x.man)
	case diveLine:
		b.Dives = append(b.Dives, x.dive)
	case soundingLine:
		b.Soundings = append(b.Soundings, x.sounding)
	}
	return b
}

// readLine reads a line; it panics if the line does not have its form.
func readLine(line terms.Line) textLine {
	switch line.Word() {
	case stintWord:
		f := line.Fields(1)
		return stintLine{rest: line.Number(f[0])}
	case rowWord:
		f := line.Fields(2)
		return rowLine{row: api.StintRow{Depth: line.Number(f[0]), Stay: line.Number(f[1])}}
	case placeWord:
		f := line.Fields(1)
		return placeLine{depth: line.Reach(f[0])}
	case manWord:
		f := line.Fields(2)
		return manLine{man: api.StintMan{Name: f[0], Deepest: line.Number(f[1])}}
	case diveWord:
		f := line.Fields(4)
		return diveLine{dive: api.StintDive{Place: line.Number(f[0]), Begin: line.Number(f[1]), Ticks: line.Number(f[2]), Men: line.Number(f[3])}}
	case soundingWord:
		f := line.Fields(3)
		return soundingLine{sounding: api.StintSounding{Place: line.Number(f[0]), Line: line.Number(f[1]), Bottom: line.Either(f[2], yesWord, noWord)}}
	}
	panic(line.Wrong())
}
