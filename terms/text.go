package terms

import (
	"slices"
	"strconv"
	"strings"

	"lagan/api"
)

const (
	lineFeed  = "\n"
	blank     = " "
	colon     = ":"
	comma     = ","
	minus     = "-"
	nothing   = "-" // a list without numbers
	maxDigits = 9
)

// Lines returns the lines of a text, without their line feeds; the last one need not have one.
func Lines(text string) []string {
	if text == "" {
		return nil
	}
	return strings.Split(strings.TrimSuffix(text, lineFeed), lineFeed)
}

// PrintLine joins a word and its fields to a line, with its line feed.
func PrintLine(fields ...string) string { return PrintFields(fields...) + lineFeed }

// PrintFields joins a word and its fields to a line that stands by itself, without a line feed.
func PrintFields(fields ...string) string { return strings.Join(fields, blank) }

// PrintEach writes several lines as a text, in order.
func PrintEach[L any](lines []L, print func(L) string) string {
	var text strings.Builder
	for _, l := range lines {
		text.WriteString(print(l))
	}
	return text.String()
}

// Fields returns the word of a line and its fields, and false if one of them is empty.
func Fields(line string) ([]string, bool) {
	fields := strings.Split(line, blank)
	if slices.Contains(fields, "") {
		return nil, false
	}
	return fields, true
}

// Number returns the number in a field, and whether the field has the form of one.
func Number(field string) (int, bool) {
	digits := strings.TrimPrefix(field, minus)
	if len(digits) < 1 || len(digits) > maxDigits {
		return 0, false
	}
	if digits[0] == '0' && field != "0" {
		return 0, false
	}
	n := 0
	for i := range len(digits) {
		if digits[i] < '0' || digits[i] > '9' {
			return 0, false
		}
		n = 10*n + int(digits[i]-'0')
	}
	if digits != field {
		return -n, true
	}
	return n, true
}

// PrintNumber writes a number.
func PrintNumber(n int) string { return strconv.Itoa(n) }

// Numbers returns the numbers in fields, and whether there are so many and each has the form of one.
func Numbers(fields []string, many int) ([]int, bool) {
	if len(fields) != many {
		return nil, false
	}
	return readEach(fields, Number)
}

// readEach returns what is in fields, and whether each has its form.
func readEach[T any](fields []string, read func(string) (T, bool)) ([]T, bool) {
	var all []T
	for _, f := range fields {
		x, ok := read(f)
		if !ok {
			return nil, false
		}
		all = append(all, x)
	}
	return all, true
}

// List returns the list in a field, and whether the field has the form of one.
func List(field string) ([]int, bool) {
	if field == nothing {
		return nil, true
	}
	return readEach(strings.Split(field, comma), Number)
}

// PrintList writes a list.
func PrintList(list []int) string {
	if len(list) == 0 {
		return nothing
	}
	var fields []string
	for _, n := range list {
		fields = append(fields, PrintNumber(n))
	}
	return strings.Join(fields, comma)
}

// IsLabel tells whether a string is a label.
func IsLabel(s string) bool {
	for i, letter := range s {
		if !Within(int(letter), 'a', 'z') && (i == 0 || !Within(int(letter), '0', '9')) {
			return false
		}
	}
	return Within(len(s), 1, api.MaxLabel)
}

// Reach returns the reach in a field, and whether the field has the form of one; Most can be below Least.
func Reach(field string) (api.Reach, bool) {
	first, second, two := strings.Cut(field, colon)
	least, ok := Number(first)
	if !ok {
		return api.Reach{}, false
	}
	if !two {
		return api.Reach{Least: least, Most: least}, true
	}
	most, ok := Number(second)
	if !ok || most == least {
		return api.Reach{}, false
	}
	return api.Reach{Least: least, Most: most}, true
}

// Reaches returns the reaches in fields, and whether each has the form of one.
func Reaches(fields []string) ([]api.Reach, bool) { return readEach(fields, Reach) }

// PrintReach writes a reach.
func PrintReach(r api.Reach) string {
	if r.Least == r.Most {
		return PrintNumber(r.Least)
	}
	return PrintNumber(r.Least) + colon + PrintNumber(r.Most)
}

// OneOf returns the index of the word, of several ones, that is in a field, and whether one of them is.
func OneOf(field string, words ...string) (int, bool) {
	i := slices.Index(words, field)
	return max(i, 0), i >= 0
}

// PrintEither writes one of two words: the first one if something is so.
func PrintEither(is bool, yes, no string) string {
	if is {
		return yes
	}
	return no
}

// WrongLine is the number of a line that does not have its form or is out of order, or 0 if there are no lines.
type WrongLine struct{ Number int }

func (w WrongLine) Error() string { return "wrong line " + strconv.Itoa(w.Number) }

// ReadLines hands the word and the fields of each line of a text on, in order, until a line is wrong: its error is that line's.
func ReadLines(text string, read func(fields []string) bool) error {
	all := Lines(text)
	if len(all) == 0 {
		return WrongLine{Number: 0}
	}
	for i, line := range all {
		fields, ok := Fields(line)
		if !ok || !read(fields) {
			return WrongLine{Number: i + 1}
		}
	}
	return nil
}

// ReadInOrder is ReadLines for lines that stand in the order of their kinds; read returns of which kind a line is, and whether it has its form.
func ReadInOrder(text string, read func(fields []string) (kind int, ok bool)) error {
	var o order
	return ReadLines(text, func(fields []string) bool {
		kind, ok := read(fields)
		return ok && o.next(kind)
	})
}

// order is that of the kinds of lines of a text: the first line alone is of the kind 0, and none is of a lesser kind than one before it.
type order struct {
	begun bool
	last  int
}

// next tells whether a line of a kind stands in order behind those before it.
func (o *order) next(kind int) bool {
	is := kind >= o.last && (kind > 0) == o.begun
	o.begun, o.last = true, kind
	return is
}
