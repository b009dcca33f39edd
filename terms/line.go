package terms

import (
	"errors"
	"strings"

	"lagan/api"
)

// Line is a line of a text that panics with a WrongLine where it does not have the form that it is asked for.
type Line struct {
	number int
	fields []string // the word, and the fields of the line
}

// EachLine hands the lines of a text on, in order; it panics with a WrongLine at the first one that is wrong.
func EachLine(text string, read func(Line)) {
	number := 0
	err := ReadLines(text, func(fields []string) bool {
		number++
		read(Line{number: number, fields: fields})
		return true
	})
	if err != nil {
		panic(err)
	}
}

// EachInOrder hands the lines of a text on like EachLine; it panics with a WrongLine, too, at the first one that is out of order. read returns of which kind a line is.
func EachInOrder(text string, read func(Line) int) {
	var o order
	EachLine(text, func(line Line) { line.Want(o.next(read(line))) })
}

// Read reads a book, and checks it; the error of read is a WrongLine if a line is wrong, whose number is returned.
func Read[B any](text string, read func(text string) (B, error), check func(B) api.Hitch) (b B, line int, h api.Hitch) {
	if len(text) > api.MaxText {
		return b, 0, api.Number
	}
	parsed, err := read(text)
	var wrong WrongLine
	if errors.As(err, &wrong) {
		return b, wrong.Number, api.Shape
	}
	if h := check(parsed); h != api.Smooth {
		return b, 0, h
	}
	return parsed, 0, api.Smooth
}

// Parse reads a book, and checks it; read panics with a WrongLine where a line is wrong, whose number is returned.
func Parse[B any](text string, read func(text string) B, check func(B) api.Hitch) (b B, line int, h api.Hitch) {
	return Read(text, func(text string) (B, error) { return catch(text, read) }, check)
}

// catch reads a book, or what else is in a text, and returns the WrongLine as an error that is panicked with where a line is wrong.
func catch[B any](text string, read func(text string) B) (b B, err error) {
	defer func() {
		if wrong, ok := recover().(WrongLine); ok {
			err = wrong
		}
	}()
	return read(text), nil
}

// ReadLine reads a line that stands by itself, without a line feed; read panics with a WrongLine if it is wrong, which is Shape.
func ReadLine[T any](line string, read func(Line) T) (x T, h api.Hitch) {
	if strings.Contains(line, lineFeed) {
		return x, api.Shape
	}
	whole, err := catch(line, func(line string) (whole T) {
		EachLine(line, func(l Line) { whole = read(l) })
		return whole
	})
	if err != nil {
		return x, api.Shape
	}
	return whole, api.Smooth
}

// Wrong returns what is panicked with if the line is wrong.
func (l Line) Wrong() WrongLine { return WrongLine{Number: l.number} }

// Want panics unless all is well with the line.
func (l Line) Want(well bool) {
	if !well {
		panic(l.Wrong())
	}
}

// Fields returns the fields behind the word, of which there are to be so many.
func (l Line) Fields(many int) []string {
	l.Want(len(l.fields) == 1+many)
	return l.fields[1:]
}

// Word returns the word of the line.
func (l Line) Word() string { return l.fields[0] }

// Number returns the number in a field.
func (l Line) Number(field string) int {
	n, ok := Number(field)
	l.Want(ok)
	return n
}

// List returns the list in a field.
func (l Line) List(field string) []int {
	list, ok := List(field)
	l.Want(ok)
	return list
}

// Reach returns the reach in a field; Most can be below Least.
func (l Line) Reach(field string) api.Reach {
	r, ok := Reach(field)
	l.Want(ok)
	return r
}

// Either tells which of two words is in a field: whether it is the first one.
func (l Line) Either(field, yes, no string) bool { return l.OneOf(field, yes, no) == 0 }

// OneOf returns the index of the word, of several ones, that is in a field.
func (l Line) OneOf(field string, words ...string) int {
	i, ok := OneOf(field, words...)
	l.Want(ok)
	return i
}
