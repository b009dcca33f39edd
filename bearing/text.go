package bearing

import (
	"lagan/api"
	"lagan/terms"
)

// rank is a kind of lines, in the order in which they are written.
type rank int

const (
	chartRank rank = iota
	compassRank
	witnessRank
)

const (
	chartWord   = "chart"
	compassWord = "compass"
	witnessWord = "witness"
	sureWord    = "sure"
	maybeWord   = "maybe"
)

// line is a line of a text.
type line interface {
	rank() rank
	print() string
}

type chartLine struct{ wide, high, liars int }

type compassLine struct{ off api.Reach }

type witnessLine struct{ witness api.BearingWitness }

func (chartLine) rank() rank { return chartRank }

func (compassLine) rank() rank { return compassRank }

func (witnessLine) rank() rank { return witnessRank }

func (l chartLine) print() string {
	return terms.PrintLine(chartWord, terms.PrintNumber(l.wide), terms.PrintNumber(l.high), terms.PrintNumber(l.liars))
}

func (l compassLine) print() string {
	return terms.PrintLine(compassWord, terms.PrintReach(l.off))
}

func (l witnessLine) print() string {
	w := l.witness
	sure := maybeWord
	if w.Sure {
		sure = sureWord
	}
	return terms.PrintLine(witnessWord, terms.PrintNumber(w.At.East), terms.PrintNumber(w.At.North), words[w.Bearing], terms.PrintNumber(w.Compass), sure)
}

// lines returns the lines of a book.
func (c checked) lines() []line {
	all := []line{chartLine{wide: c.Wide, high: c.High, liars: c.False}}
	for _, r := range c.Compasses {
		all = append(all, compassLine{off: r})
	}
	for _, w := range c.Witnesses {
		all = append(all, witnessLine{witness: w})
	}
	return all
}

func (c checked) print() string { return terms.PrintEach(c.lines(), line.print) }

// readChart reads a book, which may have a hitch; a line that is wrong is its error.
func readChart(text string) (api.BearingChart, error) {
	var b api.BearingChart
	err := terms.ReadInOrder(text, func(fields []string) (int, bool) {
		l, ok := readLine(fields)
		if !ok {
			return 0, false
		}
		b = withLine(b, l)
		return int(l.rank()), true
	})
	return b, err
}

// withLine returns a book with what a line says.
func withLine(b api.BearingChart, l line) api.BearingChart {
	switch x := l.(type) {
	case chartLine:
		b.Wide, b.High, b.False = x.wide, x.high, x.liars
	case compassLine:
		b.Compasses = append(b.Compasses, x.off)
	case witnessLine:
		b.Witnesses = append(b.Witnesses, x.witness)
	}
	return b
}

// readLine reads the word and the fields of a line, and tells whether it has its form.
func readLine(fields []string) (line, bool) {
	switch fields[0] {
	case chartWord:
		return readChartLine(fields[1:])
	case compassWord:
		return readCompassLine(fields[1:])
	case witnessWord:
		return readWitnessLine(fields[1:])
	}
	return nil, false
}

func readChartLine(fields []string) (line, bool) {
	n, ok := terms.Numbers(fields, 3)
	if !ok {
		return nil, false
	}
	return chartLine{wide: n[0], high: n[1], liars: n[2]}, true
}

func readCompassLine(fields []string) (line, bool) {
	if len(fields) != 1 {
		return nil, false
	}
	off, ok := terms.Reach(fields[0])
	if !ok {
		return nil, false
	}
	return compassLine{off: off}, true
}

func readWitnessLine(fields []string) (line, bool) {
	if len(fields) != 5 {
		return nil, false
	}
	n, ok := terms.Numbers([]string{fields[0], fields[1], fields[3]}, 3)
	if !ok {
		return nil, false
	}
	bearing, ok := bearingOf(fields[2])
	if !ok {
		return nil, false
	}
	sure := fields[4] == sureWord
	if !sure && fields[4] != maybeWord {
		return nil, false
	}
	at := api.BearingSquare{East: n[0], North: n[1]}
	return witnessLine{witness: api.BearingWitness{At: at, Bearing: bearing, Compass: n[2], Sure: sure}}, true
}
