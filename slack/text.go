package slack

import (
	"slices"

	"lagan/api"
	"lagan/terms"
)

// kind is a kind of lines.
type kind int

const (
	slackKind kind = iota
	turnKind
	watchKind
)

const (
	slackWord = "slack"
	turnWord  = "turn"
	watchWord = "watch"
	yesWord   = "yes"
	noWord    = "no"
)

// next returns the kinds of lines that may stand behind one of this kind.
func (k kind) next() []kind {
	var may []kind
	switch k {
	case slackKind, turnKind:
		may = append(may, turnKind)
		fallthrough
	case watchKind:
		may = append(may, watchKind)
	}
	return may
}

// textLine is a line of a text.
type textLine interface {
	kind() kind
	print() string
}

type slackLine struct{ shift, clock api.Reach }

type turnLine struct{ turn api.SlackTurn }

type watchLine struct{ watch api.SlackWatch }

func (slackLine) kind() kind { return slackKind }

func (turnLine) kind() kind { return turnKind }

func (watchLine) kind() kind { return watchKind }

func (l slackLine) print() string {
	return terms.PrintLine(slackWord, terms.PrintReach(l.shift), terms.PrintReach(l.clock))
}

func (l turnLine) print() string {
	return terms.PrintLine(turnWord, terms.PrintNumber(l.turn.At), terms.PrintReach(l.turn.Half))
}

func (l watchLine) print() string {
	return terms.PrintLine(watchWord, terms.PrintNumber(l.watch.At), terms.PrintEither(l.watch.Slack, yesWord, noWord))
}

// lines returns the lines of a book.
func (c checked) lines() []textLine {
	all := []textLine{slackLine{shift: c.Shift, clock: c.Clock}}
	for _, t := range c.Turns {
		all = append(all, turnLine{turn: t})
	}
	for _, w := range c.Watches {
		all = append(all, watchLine{watch: w})
	}
	return all
}

func (c checked) print() string { return terms.PrintEach(c.lines(), textLine.print) }

// readBook reads a book, which may have a hitch; it panics with a terms.WrongLine where a line is wrong.
func readBook(text string) api.SlackBook {
	var b api.SlackBook
	next := []kind{slackKind}
	terms.EachLine(text, func(line terms.Line) {
		l := readLine(line)
		line.Want(slices.Contains(next, l.kind()))
		next = l.kind().next()
		b = withLine(b, l)
	})
	return b
}

// withLine returns a book with what a line says.
func withLine(b api.SlackBook, l textLine) api.SlackBook {
	switch x := l.(type) {
	case slackLine:
		b.Shift, b.Clock = x.shift, x.clock
	case turnLine:
		b.Turns = append(b.Turns, x.turn)
	case watchLine:
		b.Watches = append(b.Watches, x.watch)
	}
	return b
}

// readLine reads a line; it panics if the line does not have its form.
func readLine(line terms.Line) textLine {
	fields := line.Fields(2) // whatever the word is
	switch line.Word() {
	case slackWord:
		return slackLine{shift: line.Reach(fields[0]), clock: line.Reach(fields[1])}
	case turnWord:
		return turnLine{turn: api.SlackTurn{At: line.Number(fields[0]), Half: line.Reach(fields[1])}}
	case watchWord:
		return watchLine{watch: api.SlackWatch{At: line.Number(fields[0]), Slack: line.Either(fields[1], yesWord, noWord)}}
	}
	panic(line.Wrong())
}
