package mooring

import (
	"slices"

	"lagan/api"
	"lagan/terms"
)

// kind is a kind of lines; they stand in the order of their kinds, and one of the first kind is the first line alone.
type kind int

const (
	mooringKind kind = iota
	anchorKind
	windKind
	nightKind
)

const (
	mooringWord = "mooring"
	anchorWord  = "anchor"
	windWord    = "wind"
	nightWord   = "night"
	mudWord     = "mud"
	sandWord    = "sand"
	rockWord    = "rock"
	rodeWord    = "rode"
	draggedWord = "dragged"
)

// groundWords returns the words of all kinds of ground, in their order.
func groundWords() []string {
	return []string{api.MooringMud: mudWord, api.MooringSand: sandWord, api.MooringRock: rockWord}
}

// sideWords returns the words of all sides, in their order.
func sideWords() []string {
	var words []string
	for _, s := range sides {
		words = append(words, s.word)
	}
	return words
}

// textLine is a line of a text.
type textLine interface {
	kind() kind
	print() string
}

type mooringLine struct {
	depth   int
	grounds []api.Reach
}

type anchorLine struct{ anchor api.MooringAnchor }

type windLine struct{ wind api.MooringWind }

type nightLine struct{ night api.MooringNight }

func (mooringLine) kind() kind { return mooringKind }

func (anchorLine) kind() kind { return anchorKind }

func (windLine) kind() kind { return windKind }

func (nightLine) kind() kind { return nightKind }

func (l mooringLine) print() string {
	fields := []string{mooringWord, terms.PrintNumber(l.depth)}
	for _, r := range l.grounds {
		fields = append(fields, terms.PrintReach(r))
	}
	return terms.PrintLine(fields...)
}

func (l anchorLine) print() string {
	a := l.anchor
	return terms.PrintLine(anchorWord, terms.PrintNumber(a.At.East), terms.PrintNumber(a.At.North), groundWords()[a.Ground], terms.PrintNumber(a.Strength), terms.PrintNumber(a.Length))
}

func (l windLine) print() string {
	return terms.PrintLine(windWord, sideWords()[l.wind.Side], terms.PrintReach(l.wind.Strength))
}

func (l nightLine) print() string {
	return terms.PrintLine(nightWord, terms.PrintNumber(l.night.Wind), terms.PrintEither(l.night.Rode, rodeWord, draggedWord))
}

// lines returns the lines of a book.
func (c checked) lines() []textLine {
	all := []textLine{mooringLine{depth: c.Depth, grounds: c.Grounds}}
	for _, a := range c.Anchors {
		all = append(all, anchorLine{anchor: a})
	}
	for _, w := range c.Winds {
		all = append(all, windLine{wind: w})
	}
	for _, n := range c.Nights {
		all = append(all, nightLine{night: n})
	}
	return all
}

func (c checked) print() string { return terms.PrintEach(c.lines(), textLine.print) }

// readBook reads a book, which may have a hitch; a line that is wrong is its error.
func readBook(text string) (api.MooringBook, error) {
	var b api.MooringBook
	err := terms.ReadInOrder(text, func(fields []string) (int, bool) {
		l, ok := readLine(fields[0], fields[1:])
		if !ok {
			return 0, false
		}
		b = withLine(b, l)
		return int(l.kind()), true
	})
	return b, err
}

// withLine returns a book with what a line says.
func withLine(b api.MooringBook, l textLine) api.MooringBook {
	switch x := l.(type) {
	case mooringLine:
		b.Depth, b.Grounds = x.depth, x.grounds
	case anchorLine:
		b.Anchors = append(b.Anchors, x.anchor)
	case windLine:
		b.Winds = append(b.Winds, x.wind)
	case nightLine:
		b.Nights = append(b.Nights, x.night)
	}
	return b
}

// readLine reads the word and the fields of a line, and tells whether it has its form.
func readLine(word string, fields []string) (textLine, bool) {
	switch {
	case word == mooringWord && len(fields) == 1+kinds:
		return readMooringLine(fields[0], fields[1:])
	case word == anchorWord && len(fields) == 5:
		return readAnchorLine(fields[2], slices.Concat(fields[:2], fields[3:]))
	case word == windWord && len(fields) == 2:
		return readWindLine(fields[0], fields[1])
	case word == nightWord && len(fields) == 2:
		return readNightLine(fields[0], fields[1])
	}
	return nil, false
}

func readMooringLine(depth string, grounds []string) (textLine, bool) {
	feet, ok := terms.Number(depth)
	reaches, all := terms.Reaches(grounds)
	return mooringLine{depth: feet, grounds: reaches}, ok && all
}

// readAnchorLine reads a line with a kind of ground, and with numbers before and behind it.
func readAnchorLine(word string, numbers []string) (textLine, bool) {
	kind, ok := terms.OneOf(word, groundWords()...)
	n, all := terms.Numbers(numbers, 4)
	if !ok || !all {
		return nil, false
	}
	at := api.MooringPlace{East: n[0], North: n[1]}
	return anchorLine{anchor: api.MooringAnchor{At: at, Ground: api.MooringKind(kind), Strength: n[2], Length: n[3]}}, true
}

func readWindLine(side, strength string) (textLine, bool) {
	from, ok := terms.OneOf(side, sideWords()...)
	strong, form := terms.Reach(strength)
	return windLine{wind: api.MooringWind{Side: from, Strength: strong}}, ok && form
}

func readNightLine(wind, rode string) (textLine, bool) {
	i, ok := terms.Number(wind)
	word, either := terms.OneOf(rode, rodeWord, draggedWord)
	return nightLine{night: api.MooringNight{Wind: i, Rode: word == 0}}, ok && either
}
