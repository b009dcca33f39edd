package finds

import (
	"lagan/api"
	"lagan/terms"
)

// worn stands in a mark for a letter that cannot be read.
const worn = '?'

func isLetter(letter rune) bool { return terms.Within(int(letter), 'a', 'z') }

func isMark(s string) bool { return isSpelt(s, isLetter) }

// isWornMark tells whether a string is a mark that may be worn.
func isWornMark(s string) bool {
	return isSpelt(s, func(letter rune) bool { return letter == worn || isLetter(letter) })
}

// isSpelt tells whether a string is as long as marks are, and each of its letters is one of those that may be in it.
func isSpelt(s string, mayBe func(letter rune) bool) bool {
	if !terms.Within(len(s), 1, api.MaxFindsMark) {
		return false
	}
	for _, letter := range s {
		if !mayBe(letter) {
			return false
		}
	}
	return true
}

// fits tells whether a mark that may be worn can be the other one.
func fits(found, mark string) bool {
	if len(found) != len(mark) {
		return false
	}
	for place, letter := range found {
		if letter != worn && letter != rune(mark[place]) {
			return false
		}
	}
	return true
}

// fits tells whether a find fits a line.
func (b book) fits(find, line int) bool { return fits(b.Finds[find], b.Lines[line].Mark) }

// cleaned returns a mark in which a letter stands that could not be read.
func cleaned(mark string, place int, letter string) (string, api.Hitch) {
	if !terms.Within(place, 0, len(mark)-1) {
		return "", api.Missing
	}
	if len(letter) != 1 || !isMark(letter) {
		return "", api.Shape
	}
	if mark[place] != worn {
		return "", api.Double
	}
	return mark[:place] + letter + mark[place+1:], api.Smooth
}
