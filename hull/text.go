package hull

import (
	"lagan/api"
	"lagan/terms"
)

// kind is a kind of lines; they stand in the order of their kinds, and one of the first kind is the first line alone.
type kind int

const (
	hullKind kind = iota
	pieceKind
	heelKind
)

const (
	hullWord      = "hull"
	pieceWord     = "piece"
	heelWord      = "heel"
	uprightWord   = "upright"
	portWord      = "port"
	starboardWord = "starboard"
)

// sideWords returns the words of all sides, in their order.
func sideWords() []string {
	return []string{api.HullUpright: uprightWord, api.HullPort: portWord, api.HullStarboard: starboardWord}
}

// textLine is a line of a text.
type textLine interface {
	kind() kind
	print() string
}

type hullLine struct {
	limit   int
	ballast api.Reach
	out     []int
}

type pieceLine struct{ piece api.HullPiece }

type heelLine struct{ heel api.HullHeel }

func (hullLine) kind() kind { return hullKind }

func (pieceLine) kind() kind { return pieceKind }

func (heelLine) kind() kind { return heelKind }

func (l hullLine) print() string {
	return terms.PrintLine(hullWord, terms.PrintNumber(l.limit), terms.PrintReach(l.ballast), terms.PrintList(l.out))
}

func (l pieceLine) print() string {
	p := l.piece
	return terms.PrintLine(pieceWord, p.Name, terms.PrintNumber(p.Arm), terms.PrintReach(p.Weight), terms.PrintList(p.On))
}

func (l heelLine) print() string {
	return terms.PrintLine(heelWord, terms.PrintNumber(l.heel.After), sideWords()[l.heel.Side])
}

// lines returns the lines of a book.
func (c checked) lines() []textLine {
	all := []textLine{hullLine{limit: c.Limit, ballast: c.Ballast, out: c.Out}}
	for _, p := range c.Pieces {
		all = append(all, pieceLine{piece: p})
	}
	for _, l := range c.Heels {
		all = append(all, heelLine{heel: l})
	}
	return all
}

func (c checked) print() string { return terms.PrintEach(c.lines(), textLine.print) }

// readBook reads a book, which may have a hitch; it panics with a terms.WrongLine where a line is wrong.
func readBook(text string) api.HullBook {
	var b api.HullBook
	terms.EachInOrder(text, func(line terms.Line) int {
		l := readLine(line)
		b = withLine(b, l)
		return int(l.kind())
	})
	return b
}

// withLine returns a book with what a line says.
func withLine(b api.HullBook, l textLine) api.HullBook {
	switch x := l.(type) {
	case hullLine:
		b.Limit, b.Ballast, b.Out = x.limit, x.ballast, x.out
	case pieceLine:
		b.Pieces = append(b.Pieces, x.piece)
	case heelLine:
		b.Heels = append(b.Heels, x.heel)
	}
	return b
}

// readLine reads a line; it panics if the line does not have its form.
func readLine(line terms.Line) textLine {
	switch line.Word() {
	case hullWord:
		f := line.Fields(3)
		return hullLine{limit: line.Number(f[0]), ballast: line.Reach(f[1]), out: line.List(f[2])}
	case pieceWord:
		f := line.Fields(4)
		return pieceLine{piece: api.HullPiece{Name: f[0], Arm: line.Number(f[1]), Weight: line.Reach(f[2]), On: line.List(f[3])}}
	case heelWord:
		f := line.Fields(2)
		side := line.OneOf(f[1], sideWords()...)
		return heelLine{heel: api.HullHeel{After: line.Number(f[0]), Side: api.HullSide(side)}}
	}
	panic(line.Wrong())
}
